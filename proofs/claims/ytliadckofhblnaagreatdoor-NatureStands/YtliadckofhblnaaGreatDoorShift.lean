/- nat.tenTo and (Big).Shift. -/
import Derived.Test.YtliadckofhblnaaGreatDoorLimb3
import Derived.Test.YtliadckofhblnaaGreatDoorGcdFirst
import Derived.Deep.RegionHeld3
import Derived.Test.YtliadckofhblnaaGreatDoorCopy
import Derived.Test.YtliadckofhblnaaGreatDoorLehmer
import Derived.Test.YtliadckofhblnaaGreatDoorCmp
import Derived.Deep.RegionLaw
import Derived.Deep.Cut
set_option maxHeartbeats 2000000
set_option maxRecDepth 100000
namespace Go.Proofs.YtliadckofhblnaaGreatDoor
open Go.RowKit
theorem OutU.on {w wr W:World} {a b:Value} {N:Nat} {O:List Nat} (h:OutU w wr a b N O) (hb:Below wr.heap.size wr W):OutU w W a b N O :=
 ⟨h.own.later hb h.own.lt,h.len,h.box.on (hb.mono h.box.size)⟩
theorem together_any (x y:Value) (b c N k:Nat) (t m:Int) (w:World) (hx:zAf w x b) (hy:zAf w y c) (hcb:c≤b) (hk:k≤1000000) (hbk:b<1000000000 ^ k)
 (ht:-1000000000≤t∧t≤1000000000) (hm:-1000000000≤m∧m≤1000000000) (hs:(0≤t∧m≤0)∨(t≤0∧0≤m)) (hN:(N:Int)=t*(b:Int)+m*(c:Int)) (hNb:N≤b) :
 Calls Tryz.prog 257 #[x,y,I t,I m] w fun e w'=>∃a n c,e=.returned (.agg #[.slice a n c])∧zAf w' (.agg #[.slice a n c]) N∧Bw w w':=by
 obtain⟨ap,lp,cp,rfl,hlp,hrp,hnp,rfl⟩:=hx.form;obtain⟨aq,lq,cq,rfl,hlq,hrq,hnq,rfl⟩:=hy.form;have h1:=Cub.len_le hnp hbk;have hvp:=Cub.lval_lt hnp.1;have h2:lq.length≤lp.length:=Cub.len_le hnq (by omega);have HP:Hid (Cub.limbs 1000000000 lp∧Cells w ap lp):=⟨hnp.1,hrp.cells.2.2.2⟩;have HQ:Hid (Cub.limbs 1000000000 lq∧Row w (.slice aq lq.length cq) lq):=⟨hnq.1,hrq⟩;have HN:Hid (∀S k',Cub.TG lp lq S t m k' lp.length→Cub.lval 1000000000 S=N):=fun S k' h=>h.done rfl h2 N hN (by omega)
 have HS:=zAb hs;obtain⟨np,hnp'⟩:∃np,np=lp.length:=⟨_,rfl⟩;rw[←hnp']at h1 ⊢;have HNP:=zAb hnp';have HT0:Hid (Cub.TG lp lq (List.replicate np 0) t m 0 0):=by rw[hnp'];exact Cub.TG.start lp lq t m
 generalize hnq':lq.length=nq at *
 have HNQ:=zAb hnq';clear hx hy hbk hlp hlq hrp hrq hnp hnq hnp' hnq' hN hNb hvp hcb hs h2;obtain⟨i0,hi,hz0,hz1,hz2⟩:=info_parts Tryz.info168;obtain⟨t1,t2⟩:=ht;obtain⟨m1,m2⟩:=hm;go_enter Tryz.func257,Tryz.ntmps257
 go_wp2_with (first
  | (at_make;go_must(refine wpList_make_full _ rfl _ _ 78 rfl (w.heap.size+3) 168 i0 (.int .u64 0) 1 Tryz.underlying78 hi hz0 hz1 .i64 .i64 _ _ np rfl rfl (by omega) (by omega) (by rw[hz2];omega) (by unfold maxLen;omega) (by simp) ?_;intro w4 hown4 hgrow4;rw[zDw]at hown4;have hO4:Own w4 (w.heap.size+1+1+1) (List.replicate np 0):=(by have:=Own.of_row hown4;simpa using this);have hB4:=boxes3 ((Below.refl (w.heap.size+3) _).grown hgrow4 (by simp) (fun k hk=>by cases hk));have HO4:Hid (OutU w w4 (.slice ap np cp) (.slice aq nq cq) np (List.replicate np 0)):=⟨hO4,List.length_replicate ..,hB4⟩;clear hown4 hgrow4 hO4 hB4)))
 go_loopw [10,18] (fun u v wr=>∃(k:Int) (i:Nat) (O:List Nat),u=I k∧v=I (i:Int)∧i≤np∧-1000000000≤k∧k≤999999999∧Hid (OutU w wr (.slice ap np cp) (.slice aq nq cq) np O)∧Hid (Cub.TG lp lq O t m k i)) (fun _ v _=>np - (intOf v).toNat)
 case atStart=>exact⟨0,0,_,rfl,rfl,by omega,by omega,by omega,HO4,HT0⟩
 case round=>
  obtain⟨k,i,O,rfl,rfl,hi',k1,k2,HO,HG⟩:=hrel;clear HO4 HT0
  by_cases hin:i<np
  ·have hil:i<lp.length:=by have:=un HNP;omega
   obtain⟨xb,hxb⟩:∃xb,xb=lp[i]:=⟨_,rfl⟩;have hxB:xb<1000000000:=by rw[hxb];exact(un HP).1 _ (List.getElem_mem hil)
   have hxb':lp.getD i 0=xb:=by rw[hxb,List.getD_eq_getElem?_getD,List.getElem?_eq_getElem hil];exact rfl
   obtain⟨xc,hxc⟩:∃xc,lq.getD i 0=xc:=⟨_,rfl⟩
   have hcB:xc<1000000000:=by
    rw[←hxc]
    by_cases hq:i<lq.length
    ·rw[List.getD_eq_getElem?_getD,List.getElem?_eq_getElem hq];exact(un HQ).1 _ (List.getElem_mem hq)
    ·rw[List.getD_eq_getElem?_getD,List.getElem?_eq_none (by omega)];decide
   obtain⟨o1,o2,⟨o3,o4⟩,⟨o5,o6⟩⟩:=Cub.opp_bound (t:=t) (m:=m) (x:=(xb:Int)) (z:=(xc:Int)) ⟨t1,t2⟩ ⟨m1,m2⟩ (un HS) (by omega) (by omega);obtain⟨s,hs⟩:∃s,s=k+1000000000000000000+t*(xb:Int)+m*(xc:Int):=⟨_,rfl⟩;have s0:0≤s:=by omega
   have s1:s≤1999999999999999999:=by omega
   have HG':Hid (Cub.TG lp lq (O.set i (s % 1000000000).toNat) t m (s / 1000000000 - 1000000000) (i+1)):=(un HG).step hil (by rw[hxb',hxc];exact hs) s0 s1;have HSV:Hid (k+(1000000000000000000+t*(xb:Int)+m*(xc:Int))=s):=by show _=_;omega
   obtain⟨b1,p1,rfl,hcx⟩:=(un HP).2 wr (un HO).box.below i hil
   have hcx':∀z:zBy wr,z.world.cell? ⟨b1,p1+i,none⟩=some (.int .u64 (xb:Int)):=fun z=>by
    obtain⟨b2,p2,e2,hc2⟩:=(un HP).2 z.world ((un HO).box.below.trans (z.below.mono (un HO).box.below.size)) i hil;simp only[Option.some.injEq,Addr.mk.injEq]at e2;obtain⟨rfl,rfl,_⟩:=e2;rw[hc2,←hxb]
   have HL:Hid (∀z:zBy wr,Calls Tryz.prog 285 #[.agg #[.slice aq nq cq],I (i:Int)] z.world fun e w'=>e=.returned (.int .u64 (xc:Int))∧Below z.world.heap.size z.world w'):=fun z=>by
    have hnq:=un HNQ;have hr:=(un HQ).2.later ((un HO).box.below.trans (z.below.mono (un HO).box.below.size));have:=limb_any aq lq cq i z.world (by rw[hnq];exact hr);rw[hxc,hnq]at this;exact this
   have c1:∀z:zBy wr,z.world.cell? ⟨w.heap.size,0,none⟩=some (.slice (some ⟨b1,p1,none⟩) np cp):=fun z=>((un HO).on z.below).box.c1
   have c2:∀z:zBy wr,z.world.cell? ⟨w.heap.size+1,0,none⟩=some (.slice aq nq cq):=fun z=>((un HO).on z.below).box.c2
   have hin':(i:Int)<(np:Int):=by omega
   clear hs hxb hxb' hxc hcx HG
   go_upto_region 6 with fail
   refine zCz (by kernel_rfl) (by kernel_rfl) ?_
   repeat (go_big_quiet_step ((rename_i xx;refine(un HL xx).mono ?_;rintro e w9 ⟨rfl,hb9⟩;have hz:=xx.below.trans (hb9.mono xx.below.size);first|exact⟨rfl,⟨w9,hz⟩,rfl⟩|exact⟨rfl,hz⟩|exact⟨rfl,w9,hz,rfl⟩)))
   refine wpQuiet_nil ?_;intro _ hw';obtain⟨xz,hw''⟩:=hw';subst hw'';rw[un HSV];obtain⟨W,hW⟩:∃W,W=xz.world:=⟨_,rfl⟩;have HO2:Hid (OutU w W (.slice (some ⟨b1,p1,none⟩) np cp) (.slice aq nq cq) np O):=by rw[hW];exact(un HO).on xz.below
   rw[←hW];clear hW c1 c2 hcx' HL HSV HO o1 o2 o3 o4 o5 o6;have hiO:i<O.length:=by rw[(un HO2).len];exact hin
   have hcO:W.cell? ⟨w.heap.size+1+1+1,i,none⟩=some (.int .u64 (O[i]:Int)):=(un HO2).own.cell i hiO;have hfO:=(un HO2).own.frozen i;have hm0:0≤s % 1000000000:=Int.emod_nonneg _ (by decide);have HO3:Hid (OutU w (W.setCell ⟨w.heap.size+1+1+1,i,none⟩ (.int .u64 (s % 1000000000))) (.slice (some ⟨b1,p1,none⟩) np cp) (.slice aq nq cq) np (O.set i (s % 1000000000).toNat)):=(un HO2).set i (s % 1000000000).toNat (s % 1000000000) (by omega);generalize O[i]=oi at *
   go_wp2_with fail
   go_roundw
   case rel=>exact⟨s / 1000000000 - 1000000000,i+1,_,rfl,by go_num,by omega,(un HG').k1,(un HG').k2,HO3,HG'⟩
   case measure=>simp[intOf];omega
  ·have hie:i=np:=by omega
   subst hie;obtain⟨q1,q2,_⟩:=Cub.lval_trim 1000000000 _ O rfl
   have HF:Hid (Cub.normal 1000000000 (Cub.trimN O)∧Cub.lval 1000000000 (Cub.trimN O)=N):=by
    refine⟨q2 (un HG).limbs,?_⟩;rw[q1];exact un HN O k (by rw[←un HNP];exact un HG)
   have hsz:=(un HO).box.size;have br:=(un HO).box.c3;have fr:=(un HO).box.f3;clear q1 q2
   go_wp2_with (go_at_call 217;refine(zEi _ O _ ((un HO).own.row i i (un HO).len.symm (Nat.le_refl _) (by unfold maxLen;omega))).mono ?_;rintro e w6 ⟨v',rfl,hrow6,hb6⟩;obtain⟨a6,cap6,rfl,hcap6⟩:=hrow6.form;obtain⟨hc6,hf6⟩:=zBt hb6 (g:=w.heap.size+1+1) (by omega) br fr)
   refine bodyPost_ret (v:=.agg #[.slice a6 (Cub.trimN O).length cap6]) (by simp[results,Tryz.results257,go_sem,hc6]) rfl ⟨_,_,_,rfl,?_,?_⟩
   ·exact⟨_,_,rfl,hrow6.box _ hc6 (zBi _ _ _),(un HF).1,(un HF).2⟩
   ·exact((un HO).box.below.trans (hb6.mono (by omega))).setCell (p:=⟨w.heap.size+1+1,0,none⟩) (show w.heap.size≤w.heap.size+1+1 by omega) _
structure Use5 (w W:World) (A B C D:Int) (a b:Value):Prop where
 s0:W.cell? ⟨w.heap.size,0,none⟩=some (.int .i64 A)
 s1:W.cell? ⟨w.heap.size,1,none⟩=some (.int .i64 B)
 s2:W.cell? ⟨w.heap.size,2,none⟩=some (.int .i64 C)
 s3:W.cell? ⟨w.heap.size,3,none⟩=some (.int .i64 D)
 c1:W.cell? ⟨w.heap.size+1,0,none⟩=some (a)
 c2:W.cell? ⟨w.heap.size+1+1,0,none⟩=some (b)
 r3:W.cell? ⟨w.heap.size+1+1+1,0,none⟩=some (.slice none 0 0)
 r4:W.cell? ⟨w.heap.size+1+1+1+1,0,none⟩=some (.slice none 0 0)
 f3:W.frozen? ⟨w.heap.size+1+1+1,0,none⟩=false
 f4:W.frozen? ⟨w.heap.size+1+1+1+1,0,none⟩=false
 below:Below w.heap.size w W
 size:w.heap.size+5≤W.heap.size
theorem Use5.on {w W V:World} {A B C D:Int} {a b:Value} (h:Use5 w W A B C D a b) (hb:Below W.heap.size W V):Use5 w V A B C D a b:=by
 have hz:=h.size
 refine⟨(hb.cell (p:=⟨w.heap.size,0,none⟩) (show w.heap.size<W.heap.size by omega)).trans h.s0,
  (hb.cell (p:=⟨w.heap.size,1,none⟩) (show w.heap.size<W.heap.size by omega)).trans h.s1,
  (hb.cell (p:=⟨w.heap.size,2,none⟩) (show w.heap.size<W.heap.size by omega)).trans h.s2,
  (hb.cell (p:=⟨w.heap.size,3,none⟩) (show w.heap.size<W.heap.size by omega)).trans h.s3,
  (hb.cell (p:=⟨w.heap.size+1,0,none⟩) (show w.heap.size+1<W.heap.size by omega)).trans h.c1,
  (hb.cell (p:=⟨w.heap.size+1+1,0,none⟩) (show w.heap.size+1+1<W.heap.size by omega)).trans h.c2,
  (hb.cell (p:=⟨w.heap.size+1+1+1,0,none⟩) (show w.heap.size+1+1+1<W.heap.size by omega)).trans h.r3,
  (hb.cell (p:=⟨w.heap.size+1+1+1+1,0,none⟩) (show w.heap.size+1+1+1+1<W.heap.size by omega)).trans h.r4,
  (hb.frozen (p:=⟨w.heap.size+1+1+1,0,none⟩) (show w.heap.size+1+1+1<W.heap.size by omega)).trans h.f3,
  (hb.frozen (p:=⟨w.heap.size+1+1+1+1,0,none⟩) (show w.heap.size+1+1+1+1<W.heap.size by omega)).trans h.f4,
  h.below.trans (hb.mono (by omega)),
  by have:=hb.size;omega⟩
theorem Use5.done {w W:World} {A B C D:Int} {a b u v:Value} (h:Use5 w W A B C D a b) (n m:Nat) (hn:zAf W (.agg #[u]) n) (hm:zAf W (.agg #[v]) m) :
  zAf ((W.setCell ⟨w.heap.size+1+1+1,0,none⟩ u).setCell ⟨w.heap.size+1+1+1+1,0,none⟩ v) (.agg #[u]) n∧zAf ((W.setCell ⟨w.heap.size+1+1+1,0,none⟩ u).setCell ⟨w.heap.size+1+1+1+1,0,none⟩ v) (.agg #[v]) m∧Below w.heap.size w ((W.setCell ⟨w.heap.size+1+1+1,0,none⟩ u).setCell ⟨w.heap.size+1+1+1+1,0,none⟩ v):=by
 have hc:(W.setCell ⟨w.heap.size+1+1+1,0,none⟩ u).cell? ⟨w.heap.size+1+1+1+1,0,none⟩=some (.slice none 0 0):=by
  rw[World.cell?_setCell_other _ _ _ _ (by simp)];exact h.r4
 exact⟨(hn.box _ h.r3 (zBi _ _ _)).box _ hc (zBi _ _ _),(hm.box _ h.r3 (zBi _ _ _)).box _ hc (zBi _ _ _),(h.below.setCell (by simp;omega) _).setCell (by simp;omega) _⟩
theorem use_any (x y:Value) (b c N M k:Nat) (A B C D:Int) (w:World) (hx:zAf w x b) (hy:zAf w y c) (hcb:c≤b) (hk:k≤1000000) (hbk:b<1000000000 ^ k)
  (hA:-1000000000≤A∧A≤1000000000) (hB:-1000000000≤B∧B≤1000000000) (hC:-1000000000≤C∧C≤1000000000) (hD:-1000000000≤D∧D≤1000000000) (hs:(0≤A∧B≤0)∨(A≤0∧0≤B)) (hs':(0≤C∧D≤0)∨(C≤0∧0≤D))
  (hN:(N:Int)=A*(b:Int)+B*(c:Int)) (hNb:N≤b) (hM:(M:Int)=C*(b:Int)+D*(c:Int)) (hMb:M≤b) :
  Calls Tryz.prog 209 #[.agg #[.int .i64 A,.int .i64 B,.int .i64 C,.int .i64 D],x,y] w fun e w'=>∃a1 n1 c1 a2 n2 c2,e=.returned (.tuple #[.agg #[.slice a1 n1 c1],.agg #[.slice a2 n2 c2]])∧zAf w' (.agg #[.slice a1 n1 c1]) N∧zAf w' (.agg #[.slice a2 n2 c2]) M∧Below w.heap.size w w':=by
 have H1:=zAb (fun W hx hy=>together_any x y b c N k A B W hx hy hcb hk hbk hA hB hs hN hNb)
 have H2:=zAb (fun W hx hy=>together_any x y b c M k C D W hx hy hcb hk hbk hC hD hs' hM hMb)
 have HX:=zAb hx
 have HY:=zAb hy
 obtain⟨ap,np,cp,rfl⟩:=hx.shape
 obtain⟨aq,nq,cq,rfl⟩:=hy.shape
 clear hx hy hcb hk hbk hA hB hC hD hs hs' hN hNb hM hMb
 go_enter Tryz.func209,Tryz.ntmps209
 go_upto_region 1 with fail
 obtain⟨W,hW⟩:∃W,W=(((((w.alloc (.cells #[.int .i64 A,.int .i64 B,.int .i64 C,.int .i64 D] 227)).alloc (.cells #[.slice ap np cp] 80)).alloc (.cells #[.slice aq nq cq] 80)).alloc (.cells #[.slice none 0 0] 80)).alloc (.cells #[.slice none 0 0] 80)):=⟨_,rfl⟩
 have HU:Hid (Use5 w W A B C D (.slice ap np cp) (.slice aq nq cq)):=by
  rw[hW]
  exact⟨by simp[go_sem],by simp[go_sem],by simp[go_sem],by simp[go_sem],by simp[go_sem],by simp[go_sem],by simp[go_sem],by simp[go_sem],by simp[go_sem],by simp[go_sem],((((((Below.refl _ _).alloc (Nat.le_refl _) _).alloc (by simp) _).alloc (by simp;omega) _).alloc (by simp;omega) _).alloc (by simp;omega) _),by simp⟩
 rw[←hW]
 clear hW
 have s0:=(un HU).s0;have s1:=(un HU).s1;have s2:=(un HU).s2;have s3:=(un HU).s3;have c1:=(un HU).c1;have c2:=(un HU).c2
 go_region_held3 (fun w'=>w'.cell? ⟨w.heap.size,0,none⟩=some (.int .i64 A)∧w'.cell? ⟨w.heap.size,1,none⟩=some (.int .i64 B)∧w'.cell? ⟨w.heap.size,2,none⟩=some (.int .i64 C)∧w'.cell? ⟨w.heap.size,3,none⟩=some (.int .i64 D)∧w'.cell? ⟨w.heap.size+1,0,none⟩=some (.slice ap np cp)∧w'.cell? ⟨w.heap.size+1+1,0,none⟩=some (.slice aq nq cq)) (first|assumption|(refine⟨?_,?_,?_,?_,?_,?_⟩<;>first|assumption|(simp[go_sem, *];done))|(simp[go_sem, *];done))
  (first
   | (go_at_call_of 257 (Value.int IntKind.i64 A);refine(un H1 _ ((un HX).later ((un HU).below.trans ((Below.refl _ _).drew))) ((un HY).later ((un HU).below.trans ((Below.refl _ _).drew)))).mono ?_;rintro e wB ⟨a1,n1,k1,rfl,hr1,hbB⟩;have hbB':Below W.heap.size W wB:=(Below.refl _ _).drew.trans hbB;have HUB:=zAb ((un HU).on hbB');have HR1:=zAb hr1;clear hbB hbB' hr1;have t0:=(un HUB).s0;have t1:=(un HUB).s1;have t2:=(un HUB).s2;have t3:=(un HUB).s3;have d1:=(un HUB).c1;have d2:=(un HUB).c2)
   | (go_at_call_of 257 (Value.int IntKind.i64 C);refine(un H2 wB ((un HX).later (un HUB).below) ((un HY).later (un HUB).below)).mono ?_;rintro e wC ⟨a2,n2,k2,rfl,hr2,hbC⟩;have HUC:=zAb ((un HUB).on hbC);have HR2:=zAb (And.intro ((un HR1).later hbC) hr2);clear hbC hr2;have v0:=(un HUC).s0;have v1:=(un HUC).s1;have v2:=(un HUC).s2;have v3:=(un HUC).s3;have g1:=(un HUC).c1;have g2:=(un HUC).c2;have r3:=(un HUC).r3;have r4:=(un HUC).r4;have f3:=(un HUC).f3;have f4:=(un HUC).f4))
 all_goals (
  obtain⟨q1,q2,q3⟩:=(un HUC).done N M (un HR2).1 (un HR2).2
  go_wp2
  exact bodyPost_ret (v:=.tuple #[.agg #[.slice a1 n1 k1],.agg #[.slice a2 n2 k2]]) (by simp[results,Tryz.results209,go_sem,r3,r4]) rfl ⟨_,_,_,_,_,_,rfl,q1,q2,q3⟩)
end Go.Proofs.YtliadckofhblnaaGreatDoor
namespace Cub
open Go.Lib
theorem getD9_lt {l:List Nat} (h:limbs 1000000000 l) (i:Nat):l.getD i 0<1000000000:=by
 by_cases hq:i<l.length
 ·rw[List.getD_eq_getElem?_getD,List.getElem?_eq_getElem hq];exact h _ (List.getElem_mem hq)
 ·rw[List.getD_eq_getElem?_getD,List.getElem?_eq_none (by omega)];decide
theorem split3 (L:List Nat) (t:Nat) (h:L.length=t+3):L=L.take t ++ [L.getD t 0,L.getD (t+1) 0,L.getD (t+2) 0]:=by
 have e1:=List.take_append_drop t L
 have e2:L.drop t=[L.getD t 0,L.getD (t+1) 0,L.getD (t+2) 0]:=by
  rw[List.drop_eq_getElem_cons (by omega),List.drop_eq_getElem_cons (by omega),List.drop_eq_getElem_cons (by omega),List.drop_of_length_le (by omega)]
  simp[List.getD,show t<L.length by omega,show t+1<L.length by omega,show t+2<L.length by omega]
 rw[e2]at e1
 exact e1.symm
theorem first_of (l:List Nat) (t up e f:Nat) (hl:limbs 1000000000 l) (hlen:l.length≤t+3) (hue:up*e=1000000000) (hV:lval 1000000000 l*up<1000000000 ^ (t+3))
  (hf:f=(l.getD (t+2) 0*1000000000+l.getD (t+1) 0)*up+l.getD t 0 / e) :
  (∃u,lval 1000000000 l*up=f*1000000000 ^ (t+1)+u∧u<1000000000 ^ (t+1))∧f<1000000000000000000:=by
 obtain⟨L,hL⟩:∃L,L=l ++ List.replicate (t+3 - l.length) 0:=⟨_,rfl⟩
 have hLl:L.length=t+3:=by rw[hL];simp;omega
 have hLv:lval 1000000000 L=lval 1000000000 l:=by rw[hL,lval_append,lval_zeros,Nat.mul_zero,Nat.add_zero]
 have hLb:limbs 1000000000 L:=by rw[hL];exact limbs_append.2 ⟨hl,limbs_zeros _ _ (by decide)⟩
 have hg:∀i,L.getD i 0=l.getD i 0:=fun i=>by
  rw[hL]
  by_cases hi:i<l.length
  ·simp[List.getD,List.getElem?_append_left hi]
  ·simp only[List.getD]
   rw[List.getElem?_append_right (by omega),List.getElem?_eq_none (l:=l) (by omega),List.getElem?_replicate]
   split<;>rfl
 obtain⟨u,hu1,hu2⟩:=first_digits (L.take t) (L.getD t 0) (L.getD (t+1) 0) (L.getD (t+2) 0) up e (fun x hx=>hLb x (List.mem_of_mem_take hx)) hue
 rw[←split3 L t hLl,hLv,hg,hg,hg,←hf,List.length_take,hLl,Nat.min_eq_left (by omega)]at hu1
 rw[List.length_take,hLl,Nat.min_eq_left (by omega)]at hu2
 refine⟨⟨u,hu1,hu2⟩,?_⟩
 have h1:f*1000000000 ^ (t+1)<1000000000000000000*1000000000 ^ (t+1):=by
  have e3:(1000000000:Nat) ^ (t+3)=1000000000000000000*1000000000 ^ (t+1):=by
   rw[show t+3=(t+1)+2 by omega,Nat.pow_add,Nat.mul_comm]
  rw[←e3]
  omega
 exact Nat.lt_of_mul_lt_mul_right h1
theorem up_of {l:List Nat} {t:Nat} (h:normal 1000000000 l) (hl:l.length=t+3):∃d,9*(t+3)=nDigits (lval 1000000000 l)+d∧d≤8∧lval 1000000000 l*10 ^ d<1000000000 ^ (t+3):=by
 obtain⟨s,x,rfl⟩:=split_last (l:=l) (by intro e;rw[e]at hl;simp at hl)
 obtain⟨h1,h2,h3⟩:=normal_last h
 have e:=nDigits_top s x h1 h2
 have h9:=nDigits_le9 x h3
 have h0:1≤nDigits x:=by
  have:=decDigits_length x
  have h':(decDigits x).length≠0:=fun e=>dec_ne_nil x (List.length_eq_zero_iff.1 e)
  omega
 have hsl:s.length=t+2:=by simpa using hl
 refine⟨9 - nDigits x,by rw[e,hsl];omega,by omega,?_⟩
 have hlt:=lt_pow_nDigits (lval 1000000000 (s ++ [x]))
 have hp:0<10 ^ (9 - nDigits x):=Nat.pow_pos (by decide)
 have h4:=Nat.mul_lt_mul_of_pos_right hlt hp
 rw[←Nat.pow_add,e,hsl]at h4
 rw[←pow9,show 9*(t+3)=9*(t+2)+nDigits x+(9 - nDigits x) by omega]
 exact h4
def Good (b c:Nat) (A B C D:Int):Prop :=
 (-1000000000≤A∧A≤1000000000)∧(-1000000000≤B∧B≤1000000000)∧(-1000000000≤C∧C≤1000000000)∧(-1000000000≤D∧D≤1000000000)∧((0≤A∧B≤0)∨(A≤0∧0≤B))∧((0≤C∧D≤0)∨(C≤0∧0≤D))∧
 (¬B=0→∃N M:Nat,(N:Int)=A*(b:Int)+B*(c:Int)∧(M:Int)=C*(b:Int)+D*(c:Int)∧N≤c∧M≤N∧M<c∧Nat.gcd N M=Nat.gcd b c)
theorem LS.good {b c:Nat} {x0 y0 x y A B C D:Int} (h:LS (b:Int) (c:Int) x0 y0 x y A B C D):Good b c A B C D:=by
 obtain⟨-,-,-,-,k1,k2,k3,k4,-,-,s1,s2⟩:=h.bounds
 refine⟨k1,k2,k3,k4,s1,s2,fun hB=>?_⟩
 rcases h.now with ⟨_,hB',_⟩|⟨n1,n2⟩
 ·exact absurd hB' hB
 ·have lo:=h.lo;have le:=h.le;have g:=h.gcd
  obtain⟨N,hN⟩:=Int.eq_ofNat_of_zero_le (Int.le_trans lo le)
  obtain⟨M,hM⟩:=Int.eq_ofNat_of_zero_le lo
  rw[hN,hM]at g
  refine⟨N,M,hN.symm,hM.symm,by omega,by omega,by omega,?_⟩
  simpa using g
end Cub
namespace Cub
structure ShortInv (by':Nat) (l D:List Nat) (r j:Nat):Prop where
 len:D.length=l.length
 lim:limbs 1000000000 D
 val:lval 1000000000 (D.drop j)*by'+r=lval 1000000000 (l.drop j)
 rest:r<by'
theorem ShortInv.start (by':Nat) (l:List Nat) (h:0<by'):ShortInv by' l (List.replicate l.length 0) 0 l.length:=by
 refine⟨by simp,limbs_zeros _ _ (by decide),?_,h⟩;rw[List.drop_of_length_le (by simp),List.drop_of_length_le (by simp)];simp[lval]
theorem ShortInv.step {by':Nat} {l D:List Nat} {r j:Nat} (h:ShortInv by' l D r (j+1)) (hj:j<l.length) (hx:l[j]<1000000000) :
 ShortInv by' l (D.set j ((r*1000000000+l[j]) / by')) ((r*1000000000+l[j]) % by') j:=by
 have hjD:j<D.length:=by rw[h.len];exact hj
 have hr:=h.rest
 have hq:(r*1000000000+l[j]) / by'<1000000000:=by
  rw[Nat.div_lt_iff_lt_mul (by omega)];have:(r+1)*1000000000≤by'*1000000000:=Nat.mul_le_mul_right _ hr
  rw[Nat.mul_comm 1000000000 by']
  omega
 refine⟨by rw[List.length_set];exact h.len,limbs_set h.lim _ _ hq,?_,Nat.mod_lt _ (by omega)⟩
 have e1:(D.set j ((r*1000000000+l[j]) / by')).drop j=((r*1000000000+l[j]) / by') :: D.drop (j+1):=by
  rw[List.drop_eq_getElem_cons (by simpa using hjD)]
  congr 1
  ·simp
  ·rw[List.drop_set_of_lt (by omega)]
 rw[e1,List.drop_eq_getElem_cons hj];show((r*1000000000+l[j]) / by'+1000000000*lval 1000000000 (D.drop (j+1)))*by'+(r*1000000000+l[j]) % by'=l[j]+1000000000*lval 1000000000 (l.drop (j+1))
 rw[←h.val];have e2:=Nat.div_add_mod (r*1000000000+l[j]) by'
 generalize (r*1000000000+l[j]) / by'=q at *
 generalize (r*1000000000+l[j]) % by'=s at *
 generalize lval 1000000000 (D.drop (j+1))=V at *
 rw[Nat.add_mul,Nat.mul_add,Nat.mul_assoc,Nat.mul_comm q by']
 omega
theorem ShortInv.last {by':Nat} {l D:List Nat} {r:Nat} (h:ShortInv by' l D r 0):lval 1000000000 D=lval 1000000000 l / by'∧r=lval 1000000000 l % by':=by
 have h1:=h.val;rw[List.drop_zero,List.drop_zero]at h1;have h2:=h.rest;rw[←h1,Nat.mul_comm];refine⟨?_,?_⟩
 ·rw[Nat.mul_add_div (by omega),Nat.div_eq_of_lt h2];rfl
 ·rw[Nat.mul_add_mod,Nat.mod_eq_of_lt h2]
end Cub
namespace Go.Proofs.YtliadckofhblnaaGreatDoor
open Go.RowKit
structure Res2 (w w4:World) (a:Value):Prop where
 c1:w4.cell? ⟨w.heap.size,0,none⟩=some a
 c2:w4.cell? ⟨w.heap.size+1,0,none⟩=some (.slice none 0 0)
 f2:w4.frozen? ⟨w.heap.size+1,0,none⟩=false
 c3:w4.cell? ⟨w.heap.size+1+1,0,none⟩=some (.slice none 0 0)
 f3:w4.frozen? ⟨w.heap.size+1+1,0,none⟩=false
 below:Below w.heap.size w w4
 size:w.heap.size+3≤w4.heap.size
theorem res2 {w w4:World} {a:Value} (hb:Below (w.heap.size+3) (((w.alloc (.cells #[a] 80)).alloc (.cells #[.slice none 0 0] 80)).alloc (.cells #[.slice none 0 0] 80)) w4):Res2 w w4 a:=by
 refine⟨?_,?_,?_,?_,?_,?_,?_⟩
 ·rw[hb.cell (p:=⟨w.heap.size,0,none⟩) (show w.heap.size<w.heap.size+3 by omega)];simp[go_sem]
 ·rw[hb.cell (p:=⟨w.heap.size+1,0,none⟩) (show w.heap.size+1<w.heap.size+3 by omega)];simp[go_sem]
 ·rw[hb.frozen (p:=⟨w.heap.size+1,0,none⟩) (show w.heap.size+1<w.heap.size+3 by omega)];simp[go_sem]
 ·rw[hb.cell (p:=⟨w.heap.size+1+1,0,none⟩) (show w.heap.size+1+1<w.heap.size+3 by omega)];simp[go_sem]
 ·rw[hb.frozen (p:=⟨w.heap.size+1+1,0,none⟩) (show w.heap.size+1+1<w.heap.size+3 by omega)];simp[go_sem]
 ·exact((bA.alloc (by simp) _).alloc (by simp;omega) _).trans (hb.mono (by omega))
 ·have:=hb.size;simp at this;omega
theorem Res2.on {w w4 w5:World} {a:Value} (h:Res2 w w4 a) (hb:Below (w.heap.size+3) w4 w5):Res2 w w5 a :=
 ⟨(hb.cell (p:=⟨w.heap.size,0,none⟩) (show w.heap.size<w.heap.size+3 by omega)).trans h.c1,(hb.cell (p:=⟨w.heap.size+1,0,none⟩) (show w.heap.size+1<w.heap.size+3 by omega)).trans h.c2,
  (hb.frozen (p:=⟨w.heap.size+1,0,none⟩) (show w.heap.size+1<w.heap.size+3 by omega)).trans h.f2,
  (hb.cell (p:=⟨w.heap.size+1+1,0,none⟩) (show w.heap.size+1+1<w.heap.size+3 by omega)).trans h.c3,(hb.frozen (p:=⟨w.heap.size+1+1,0,none⟩) (show w.heap.size+1+1<w.heap.size+3 by omega)).trans h.f3,
  h.below.trans (hb.mono (by omega)),by have:=hb.size;have:=h.size;omega⟩
theorem Res2.done {w w4:World} {a u v:Value} (h:Res2 w w4 a) (n m:Nat) (hn:zAf w4 (.agg #[u]) n) (hm:zAf w4 (.agg #[v]) m) :
 zAf ((w4.setCell ⟨w.heap.size+1,0,none⟩ u).setCell ⟨w.heap.size+1+1,0,none⟩ v) (.agg #[u]) n∧zAf ((w4.setCell ⟨w.heap.size+1,0,none⟩ u).setCell ⟨w.heap.size+1+1,0,none⟩ v) (.agg #[v]) m∧Bw w ((w4.setCell ⟨w.heap.size+1,0,none⟩ u).setCell ⟨w.heap.size+1+1,0,none⟩ v):=by
 have hc:(w4.setCell ⟨w.heap.size+1,0,none⟩ u).cell? ⟨w.heap.size+1+1,0,none⟩=some (.slice none 0 0):=by
  rw[World.cell?_setCell_other _ _ _ _ (by simp)];exact h.c3
 exact⟨(hn.box _ h.c2 (zBi _ _ _)).box _ hc (zBi _ _ _),(hm.box _ h.c2 (zBi _ _ _)).box _ hc (zBi _ _ _),(h.below.setCell (by simp) _).setCell (by simp;omega) _⟩
theorem div_cast (s x d:Nat):(((s*1000000000+x) / d:Nat):Int)=((s:Int)*1000000000+(x:Int)) / (d:Int):=by
 rw[Int.natCast_ediv,Int.natCast_add,Int.natCast_mul];rfl
theorem mod_cast' (s x d:Nat):(((s*1000000000+x) % d:Nat):Int)=((s:Int)*1000000000+(x:Int)) % (d:Int):=by
 rw[Int.natCast_emod,Int.natCast_add,Int.natCast_mul];rfl
theorem divShort_any (x:Value) (m d k:Nat) (w:World) (hx:zAf w x m) (hk:k≤1000000) (hm:m<1000000000 ^ k) (hd:0<d) (hd2:d<1000000000) :
 Calls Tryz.prog 213 #[x,.int .u64 (d:Int)] w fun e w'=>∃a1 n1 c1 a2 n2 c2,e=.returned (.tuple #[.agg #[.slice a1 n1 c1],.agg #[.slice a2 n2 c2]])∧zAf w' (.agg #[.slice a1 n1 c1]) (m / d)∧zAf w' (.agg #[.slice a2 n2 c2]) (m % d)∧Bw w w':=by
 obtain⟨ap,lp,cp,rfl,hlp,hrp,hnp,rfl⟩:=hx.form;have h1:=Cub.len_le hnp hm;have HP:Hid (Cub.limbs 1000000000 lp∧Cells w ap lp):=⟨hnp.1,hrp.cells.2.2.2⟩;obtain⟨np,hnp'⟩:∃np,np=lp.length:=⟨_,rfl⟩;rw[←hnp']at h1 ⊢;have HNP:=zAb hnp';have HS:Hid (Cub.ShortInv d lp (List.replicate np 0) 0 np):=by rw[hnp'];exact Cub.ShortInv.start d lp hd
 clear hx hm hlp hrp hnp hnp';obtain⟨i0,hi,hz0,hz1,hz2⟩:=info_parts Tryz.info168;go_enter Tryz.func213,Tryz.ntmps213
 go_wp2_with (first
  | (at_make;go_must(refine wpList_make_full _ rfl _ _ 78 rfl (w.heap.size+3) 168 i0 (.int .u64 0) 1 Tryz.underlying78 hi hz0 hz1 .i64 .i64 _ _ np rfl rfl (by omega) (by omega) (by rw[hz2];omega) (by unfold maxLen;omega) (by simp) ?_;intro w4 hown4 hgrow4;rw[zDw]at hown4;have hO4:Own w4 (w.heap.size+1+1+1) (List.replicate np 0):=(by have:=Own.of_row hown4;simpa using this);have hB4:=res2 ((Below.refl (w.heap.size+3) _).grown hgrow4 (by simp) (fun k hk=>by cases hk));have bp4:=hB4.c1;have HO4:=zAb hO4;have HB4:=zAb hB4;clear hown4 hgrow4 hO4 hB4)))
 go_loopw [7,8] (fun r t wr=>∃(s j:Nat) (D:List Nat),r=.int .u64 (s:Int)∧t=I ((j:Int) - 1)∧j≤np∧s<d∧Hid (Cub.ShortInv d lp D s j)∧Hid (Own wr (w.heap.size+1+1+1) D)∧Hid (Res2 w wr (.slice ap np cp))) (fun _ t _=>(intOf t+1).toNat)
 case atStart=>exact⟨0,np,_,rfl,by go_num,Nat.le_refl _,hd,HS,HO4,HB4⟩
 case round=>
  obtain⟨s,j,D,rfl,rfl,hj,hs,HI,HO,HB⟩:=hrel;clear bp4;have bp:=(un HB).c1
  by_cases hj0:j=0
  ·subst hj0
   obtain⟨t1,t2,_⟩:=Cub.lval_trim 1000000000 _ D rfl;have hlast:=(un HI).last;have HF:Hid (Cub.normal 1000000000 (Cub.trimN D)∧Cub.lval 1000000000 (Cub.trimN D)=Cub.lval 1000000000 lp / d∧s=Cub.lval 1000000000 lp % d):=⟨t2 (un HI).lim,t1.trans hlast.1,hlast.2⟩;have hsz:=(un HB).size;have HL:Hid (D.length=np):=by rw[(un HI).len,←un HNP];exact rfl
   clear t1 t2 hlast
   go_wp2_with (first
    | (go_at_call 217;go_must(refine(zEi _ D _ ((un HO).row np np (un HL).symm (Nat.le_refl _) (by unfold maxLen;omega))).mono ?_;rintro e w6 ⟨v',rfl,hrow6,hb6⟩;obtain⟨a6,cap6,rfl,hcap6⟩:=hrow6.form;have HB6:=zAb ((un HB).on (hb6.mono hsz));have HR6:Hid (zAf w6 (.agg #[.slice a6 (Cub.trimN D).length cap6]) (Cub.lval 1000000000 lp / d)):=⟨_,_,rfl,hrow6,(un HF).1,(un HF).2.1⟩;clear hrow6 hb6 bp))
    | (go_at_call 210;go_must(refine(zFa s _ (by omega)).mono ?_;rintro e w7 ⟨a7,n7,c7,rfl,hbig7,hb7⟩;have HB7:=zAb ((un HB6).on (hb7.mono (un HB6).size));have HR7:=zAb ((un HR6).later hb7);have HS7:=zAb hbig7;clear hbig7 hb7;have b2:=(un HB7).c2;have f2:=(un HB7).f2;have b3:=(un HB7).c3;have f3:=(un HB7).f3)))
   obtain⟨r1,r2,r3⟩:=(un HB7).done _ _ (un HR7) (un HS7);refine bodyPost_ret (v:=.tuple #[.agg #[.slice a6 (Cub.trimN D).length cap6],.agg #[.slice a7 n7 c7]]) (by simp[results,Tryz.results213,go_sem,b2,b3]) rfl ⟨_,_,_,_,_,_,rfl,r1,?_,r3⟩;rw[←(un HF).2.2];exact r2
  ·obtain⟨i,rfl⟩:∃i,j=i+1:=⟨j - 1,by omega⟩
   have hil:i<lp.length:=by have:=un HNP;omega
   have hiD:i<D.length:=by rw[(un HI).len];exact hil
   obtain⟨xv,hxv⟩:∃xv,xv=lp[i]:=⟨_,rfl⟩;have hxB:xv<1000000000:=by rw[hxv];exact(un HP).1 _ (List.getElem_mem hil)
   obtain⟨b1,o1,rfl,hcx⟩:=(un HP).2 wr (un HB).below i hil;rw[←hxv]at hcx
   have HI':Hid (Cub.ShortInv d lp (D.set i ((s*1000000000+xv) / d)) ((s*1000000000+xv) % d) i):=by
    have:=(un HI).step hil (by rw[←hxv];exact hxB);rw[←hxv]at this;exact this
   have hco:=(un HO).cell i hiD;have hfo:=(un HO).frozen i;have hsB:s*1000000000+xv<1000000000000000000:=by omega
   have HO':Hid (Own (wr.setCell ⟨w.heap.size+1+1+1,i,none⟩ (.int .u64 (((s:Int)*1000000000+(xv:Int)) / (d:Int)))) (w.heap.size+1+1+1) (D.set i ((s*1000000000+xv) / d))):=by
    have:=(un HO).set i ((s*1000000000+xv) / d);rw[show(((s*1000000000+xv) / d:Nat):Int)=((s:Int)*1000000000+(xv:Int)) / (d:Int)from div_cast s xv d]at this;exact this
   have HB':Hid (Res2 w (wr.setCell ⟨w.heap.size+1+1+1,i,none⟩ (.int .u64 (((s:Int)*1000000000+(xv:Int)) / (d:Int)))) (.slice (some ⟨b1,o1,none⟩) np cp)) :=
    (un HB).on ((Below.refl (w.heap.size+3) wr).setCell (p:=⟨w.heap.size+1+1+1,i,none⟩) (show w.heap.size+3≤w.heap.size+1+1+1 by omega) _)
   have hmd:(s*1000000000+xv) % d<d:=Nat.mod_lt _ hd;rw[show(((i+1:Nat):Int) - 1)=(i:Int)from by omega];clear hxv HI
   go_wp2
   go_roundw
   case rel=>exact⟨(s*1000000000+xv) % d,i,_,by rw[mod_cast'],by go_num,by omega,hmd,HI',HO',HB'⟩
   case measure=>simp[intOf]
end Go.Proofs.YtliadckofhblnaaGreatDoor
namespace Go.Proofs.YtliadckofhblnaaGreatDoor
open Go.RowKit
theorem mulS (x y:Value) (m n r k:Nat) (w:World) (hx:zAf w x m) (hy:zAf w y n) (hk:k≤1000000) (hm:m<1000000000 ^ k) (hn:n<1000000000 ^ k) (hr:r=m*n) :
  Calls Tryz.prog 151 #[x,y] w fun e w'=>∃a l c,e=.returned (.agg #[.slice a l c])∧zAf w' (.agg #[.slice a l c]) r∧Bw w w':=by
 subst hr;refine(mul_any x y m n k w hx hy hk hm hn).mono ?_;rintro e w' ⟨v,rfl,hv,hb⟩;obtain⟨a,n,c,rfl⟩:=hv.shape;exact⟨a,n,c,rfl,hv,hb⟩
theorem ten_step (i n p:Nat) (hp:p=10 ^ i) (h:i<n) (hn:n≤18):p*10≤1000000000000000000∧p*10=10 ^ (i+1):=by
 subst hp;rw[←Nat.pow_succ];exact⟨Nat.pow_le_pow_right (n:=10) (by decide) (show i+1≤18 by omega),rfl⟩
theorem tenTo_any (n T:Nat) (w:World) (hn:n≤18) (hT:T=10 ^ n) :
  Calls Tryz.prog 255 #[I (n:Int)] w fun e w'=>e=.returned (.int .u64 (T:Int))∧w'=w:=by
 have HT:=zAb hT;clear hT;go_enter Tryz.func255,Tryz.ntmps255
 go_wp2
 go_loop [3,5] (fun a t=>∃p i:Nat,a=.int .u64 (p:Int)∧t=I (i:Int)∧i≤n∧Hid (p=10 ^ i)) (fun _ t=>n - (intOf t).toNat)
 case atStart=>exact⟨1,0,rfl,rfl,Nat.zero_le _,rfl⟩
 case round=>
  obtain⟨p,i,rfl,rfl,hi,HP⟩:=hrel
  by_cases hin:i<n
  ·obtain⟨h1,h2⟩:=ten_step i n p (un HP) hin hn
   have HP':Hid (p*10=10 ^ (i+1)):=h2;clear h2
   go_wp2
   go_round
   case rel=>exact⟨p*10,i+1,by go_num,by go_num,by omega,HP'⟩
   case measure=>simp[intOf];omega
  ·have hie:i=n:=by omega
   subst hie
   go_wp2
   go_ret
   exact⟨by rw[un HT,←un HP];rfl,rfl⟩
end Go.Proofs.YtliadckofhblnaaGreatDoor

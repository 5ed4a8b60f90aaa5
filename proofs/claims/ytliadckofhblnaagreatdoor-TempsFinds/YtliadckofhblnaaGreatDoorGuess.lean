/- nat.guess: never too few. -/
import Derived.Test.YtliadckofhblnaaGreatDoorAdd
import Derived.Test.YtliadckofhblnaaGreatDoorGcdFirst
import Derived.Deep.RegionHeld3
import Derived.Test.YtliadckofhblnaaGreatDoorTakeB
import Derived.Deep.RegionLaw
import Derived.Deep.Cut
import Derived.Deep.QuietTactic
import Derived.BigQuiet
set_option maxHeartbeats 2000000
set_option maxRecDepth 100000
namespace Go.Proofs.YtliadckofhblnaaGreatDoor
open Go.RowKit
theorem OutU.on {w wr W:World} {a b:Value} {N:Nat} {O:List Nat} (h:OutU w wr a b N O) (hb:Below wr.heap.size wr W):OutU w W a b N O :=
 ⟨h.own.later hb h.own.lt,h.len,h.box.on (hb.mono h.box.size)⟩
theorem together_any (x y:Value) (b c N k:Nat) (t m:Int) (w:World) (hx:zAf w x b) (hy:zAf w y c) (hcb:c≤b) (hk:k≤1000000) (hbk:b<1000000000 ^ k)
 (ht:-1000000000≤t∧t≤1000000000) (hm:-1000000000≤m∧m≤1000000000) (hs:(0≤t∧m≤0)∨(t≤0∧0≤m)) (hN:(N:Int)=t*(b:Int)+m*(c:Int)) (hNb:N≤b) :
 Calls Tryz.prog 257 #[x,y,I t,I m] w fun e w'=>∃a n c,e=.returned (.agg #[.slice a n c])∧zAf w' (.agg #[.slice a n c]) N∧Bw w w':=by
 obtain⟨ap,lp,cp,rfl,hlp,hrp,hnp,rfl⟩:=hx.form;obtain⟨aq,lq,cq,rfl,hlq,hrq,hnq,rfl⟩:=hy.form;have h1:=Cub.len_le hnp hbk;have hvp:=Cub.lval_lt hnp.1;have h2:lq.length≤lp.length:=Cub.len_le hnq (by omega);have HP:Hid (Cub.limbs 1000000000 lp∧Cells w ap lp):=⟨hnp.1,hrp.cells.2.2.2⟩;have HQ:Hid (Cub.limbs 1000000000 lq∧Row w (.slice aq lq.length cq) lq):=⟨hnq.1,hrq⟩;have HN:Hid (∀S k',Cub.TG lp lq S t m k' lp.length→Cub.lval 1000000000 S=N):=fun S k' h=>h.done rfl h2 N hN (by omega)
 have HS:=zAb hs;obtain⟨np,hnp'⟩:∃np,np=lp.length:=⟨_,rfl⟩;rw[←hnp']at h1 ⊢;have HNP:=zAb hnp';have HT0:Hid (Cub.TG lp lq (List.replicate np 0) t m 0 0):=by rw[hnp'];exact Cub.TG.start lp lq t m
 generalize hnq':lq.length=nq at *
 have HNQ:=zAb hnq';clear hx hy hbk hlp hlq hrp hrq hnp hnq hnp' hnq' hN hNb hvp hcb hs h2;obtain⟨i0,hi,hz0,hz1,hz2⟩:=info_parts Tryz.info168;obtain⟨t1,t2⟩:=ht;obtain⟨m1,m2⟩:=hm;go_enter Tryz.func257,Tryz.ntmps257
 go_wp2_with (first
  | (at_make;go_must(refine wpList_make_full _ rfl _ _ 78 rfl (w.heap.size+3) 168 i0 (.int .u64 0) 1 Tryz.underlying78 hi hz0 hz1 .i64 .i64 _ _ np rfl rfl (by omega) (by omega) (by rw[hz2];omega) (by unfold maxLen;omega) (by simp) ?_;intro w4 hown4 hgrow4;rw[zDw]at hown4;have hO4:Own w4 (w.heap.size+1+1+1) (List.replicate np 0):=(by have:=Own.of_row hown4;simpa using this);have hB4:=boxes3 ((Below.refl (w.heap.size+3) _).grown hgrow4 (by simp) (fun k hk=>by cases hk));have HO4:Hid (OutU w w4 (.slice ap np cp) (.slice aq nq cq) np (List.replicate np 0)):=⟨hO4,List.length_replicate ..,hB4⟩;clear hown4 hgrow4 hO4 hB4)))
 go_loopw [10,18] (fun u v wr=>∃(k:Int) (i:Nat) (O:List Nat),u=I k∧v=I (i:Int)∧i≤np∧-1000000000≤k∧k≤999999999∧Hid (OutU w wr (.slice ap np cp) (.slice aq nq cq) np O)∧Hid (Cub.TG lp lq O t m k i)) (fun _ v _=>np - (intOf v).toNat)
 case atStart=>exact⟨0,0,_,rfl,rfl,by omega,by omega,by omega,HO4,HT0⟩
 case round=>
  obtain⟨k,i,O,rfl,rfl,hi',k1,k2,HO,HG⟩:=hrel;clear HO4 HT0
  by_cases hin:i<np
  ·have hil:i<lp.length:=by have:=un HNP;omega
   obtain⟨xb,hxb⟩:∃xb,xb=lp[i]:=⟨_,rfl⟩;have hxB:xb<1000000000:=by rw[hxb];exact(un HP).1 _ (List.getElem_mem hil)
   have hxb':lp.getD i 0=xb:=by rw[hxb,List.getD_eq_getElem?_getD,List.getElem?_eq_getElem hil];exact rfl
   obtain⟨xc,hxc⟩:∃xc,lq.getD i 0=xc:=⟨_,rfl⟩
   have hcB:xc<1000000000:=by
    rw[←hxc]
    by_cases hq:i<lq.length
    ·rw[List.getD_eq_getElem?_getD,List.getElem?_eq_getElem hq];exact(un HQ).1 _ (List.getElem_mem hq)
    ·rw[List.getD_eq_getElem?_getD,List.getElem?_eq_none (by omega)];decide
   obtain⟨o1,o2,⟨o3,o4⟩,⟨o5,o6⟩⟩:=Cub.opp_bound (t:=t) (m:=m) (x:=(xb:Int)) (z:=(xc:Int)) ⟨t1,t2⟩ ⟨m1,m2⟩ (un HS) (by omega) (by omega);obtain⟨s,hs⟩:∃s,s=k+1000000000000000000+t*(xb:Int)+m*(xc:Int):=⟨_,rfl⟩;have s0:0≤s:=by omega
   have s1:s≤1999999999999999999:=by omega
   have HG':Hid (Cub.TG lp lq (O.set i (s % 1000000000).toNat) t m (s / 1000000000 - 1000000000) (i+1)):=(un HG).step hil (by rw[hxb',hxc];exact hs) s0 s1;have HSV:Hid (k+(1000000000000000000+t*(xb:Int)+m*(xc:Int))=s):=by show _=_;omega
   obtain⟨b1,p1,rfl,hcx⟩:=(un HP).2 wr (un HO).box.below i hil
   have hcx':∀z:zBy wr,z.world.cell? ⟨b1,p1+i,none⟩=some (.int .u64 (xb:Int)):=fun z=>by
    obtain⟨b2,p2,e2,hc2⟩:=(un HP).2 z.world ((un HO).box.below.trans (z.below.mono (un HO).box.below.size)) i hil;simp only[Option.some.injEq,Addr.mk.injEq]at e2;obtain⟨rfl,rfl,_⟩:=e2;rw[hc2,←hxb]
   have HL:Hid (∀z:zBy wr,Calls Tryz.prog 285 #[.agg #[.slice aq nq cq],I (i:Int)] z.world fun e w'=>e=.returned (.int .u64 (xc:Int))∧Below z.world.heap.size z.world w'):=fun z=>by
    have hnq:=un HNQ;have hr:=(un HQ).2.later ((un HO).box.below.trans (z.below.mono (un HO).box.below.size));have:=limb_any aq lq cq i z.world (by rw[hnq];exact hr);rw[hxc,hnq]at this;exact this
   have c1:∀z:zBy wr,z.world.cell? ⟨w.heap.size,0,none⟩=some (.slice (some ⟨b1,p1,none⟩) np cp):=fun z=>((un HO).on z.below).box.c1
   have c2:∀z:zBy wr,z.world.cell? ⟨w.heap.size+1,0,none⟩=some (.slice aq nq cq):=fun z=>((un HO).on z.below).box.c2
   have hin':(i:Int)<(np:Int):=by omega
   clear hs hxb hxb' hxc hcx HG
   go_upto_region 6 with fail
   refine zCz (by kernel_rfl) (by kernel_rfl) ?_
   repeat (go_big_quiet_step ((rename_i xx;refine(un HL xx).mono ?_;rintro e w9 ⟨rfl,hb9⟩;have hz:=xx.below.trans (hb9.mono xx.below.size);first|exact⟨rfl,⟨w9,hz⟩,rfl⟩|exact⟨rfl,hz⟩|exact⟨rfl,w9,hz,rfl⟩)))
   refine wpQuiet_nil ?_;intro _ hw';obtain⟨xz,hw''⟩:=hw';subst hw'';rw[un HSV];obtain⟨W,hW⟩:∃W,W=xz.world:=⟨_,rfl⟩;have HO2:Hid (OutU w W (.slice (some ⟨b1,p1,none⟩) np cp) (.slice aq nq cq) np O):=by rw[hW];exact(un HO).on xz.below
   rw[←hW];clear hW c1 c2 hcx' HL HSV HO o1 o2 o3 o4 o5 o6;have hiO:i<O.length:=by rw[(un HO2).len];exact hin
   have hcO:W.cell? ⟨w.heap.size+1+1+1,i,none⟩=some (.int .u64 (O[i]:Int)):=(un HO2).own.cell i hiO;have hfO:=(un HO2).own.frozen i;have hm0:0≤s % 1000000000:=Int.emod_nonneg _ (by decide);have HO3:Hid (OutU w (W.setCell ⟨w.heap.size+1+1+1,i,none⟩ (.int .u64 (s % 1000000000))) (.slice (some ⟨b1,p1,none⟩) np cp) (.slice aq nq cq) np (O.set i (s % 1000000000).toNat)):=(un HO2).set i (s % 1000000000).toNat (s % 1000000000) (by omega);generalize O[i]=oi at *
   go_wp2_with fail
   go_roundw
   case rel=>exact⟨s / 1000000000 - 1000000000,i+1,_,rfl,by go_num,by omega,(un HG').k1,(un HG').k2,HO3,HG'⟩
   case measure=>simp[intOf];omega
  ·have hie:i=np:=by omega
   subst hie;obtain⟨q1,q2,_⟩:=Cub.lval_trim 1000000000 _ O rfl
   have HF:Hid (Cub.normal 1000000000 (Cub.trimN O)∧Cub.lval 1000000000 (Cub.trimN O)=N):=by
    refine⟨q2 (un HG).limbs,?_⟩;rw[q1];exact un HN O k (by rw[←un HNP];exact un HG)
   have hsz:=(un HO).box.size;have br:=(un HO).box.c3;have fr:=(un HO).box.f3;clear q1 q2
   go_wp2_with (go_at_call 217;refine(zEi _ O _ ((un HO).own.row i i (un HO).len.symm (Nat.le_refl _) (by unfold maxLen;omega))).mono ?_;rintro e w6 ⟨v',rfl,hrow6,hb6⟩;obtain⟨a6,cap6,rfl,hcap6⟩:=hrow6.form;obtain⟨hc6,hf6⟩:=zBt hb6 (g:=w.heap.size+1+1) (by omega) br fr)
   refine bodyPost_ret (v:=.agg #[.slice a6 (Cub.trimN O).length cap6]) (by simp[results,Tryz.results257,go_sem,hc6]) rfl ⟨_,_,_,rfl,?_,?_⟩
   ·exact⟨_,_,rfl,hrow6.box _ hc6 (zBi _ _ _),(un HF).1,(un HF).2⟩
   ·exact((un HO).box.below.trans (hb6.mono (by omega))).setCell (p:=⟨w.heap.size+1+1,0,none⟩) (show w.heap.size≤w.heap.size+1+1 by omega) _
structure Use5 (w W:World) (A B C D:Int) (a b:Value):Prop where
 s0:W.cell? ⟨w.heap.size,0,none⟩=some (.int .i64 A)
 s1:W.cell? ⟨w.heap.size,1,none⟩=some (.int .i64 B)
 s2:W.cell? ⟨w.heap.size,2,none⟩=some (.int .i64 C)
 s3:W.cell? ⟨w.heap.size,3,none⟩=some (.int .i64 D)
 c1:W.cell? ⟨w.heap.size+1,0,none⟩=some (a)
 c2:W.cell? ⟨w.heap.size+1+1,0,none⟩=some (b)
 r3:W.cell? ⟨w.heap.size+1+1+1,0,none⟩=some (.slice none 0 0)
 r4:W.cell? ⟨w.heap.size+1+1+1+1,0,none⟩=some (.slice none 0 0)
 f3:W.frozen? ⟨w.heap.size+1+1+1,0,none⟩=false
 f4:W.frozen? ⟨w.heap.size+1+1+1+1,0,none⟩=false
 below:Below w.heap.size w W
 size:w.heap.size+5≤W.heap.size
theorem Use5.on {w W V:World} {A B C D:Int} {a b:Value} (h:Use5 w W A B C D a b) (hb:Below W.heap.size W V):Use5 w V A B C D a b:=by
 have hz:=h.size
 refine⟨(hb.cell (p:=⟨w.heap.size,0,none⟩) (show w.heap.size<W.heap.size by omega)).trans h.s0,
  (hb.cell (p:=⟨w.heap.size,1,none⟩) (show w.heap.size<W.heap.size by omega)).trans h.s1,
  (hb.cell (p:=⟨w.heap.size,2,none⟩) (show w.heap.size<W.heap.size by omega)).trans h.s2,
  (hb.cell (p:=⟨w.heap.size,3,none⟩) (show w.heap.size<W.heap.size by omega)).trans h.s3,
  (hb.cell (p:=⟨w.heap.size+1,0,none⟩) (show w.heap.size+1<W.heap.size by omega)).trans h.c1,
  (hb.cell (p:=⟨w.heap.size+1+1,0,none⟩) (show w.heap.size+1+1<W.heap.size by omega)).trans h.c2,
  (hb.cell (p:=⟨w.heap.size+1+1+1,0,none⟩) (show w.heap.size+1+1+1<W.heap.size by omega)).trans h.r3,
  (hb.cell (p:=⟨w.heap.size+1+1+1+1,0,none⟩) (show w.heap.size+1+1+1+1<W.heap.size by omega)).trans h.r4,
  (hb.frozen (p:=⟨w.heap.size+1+1+1,0,none⟩) (show w.heap.size+1+1+1<W.heap.size by omega)).trans h.f3,
  (hb.frozen (p:=⟨w.heap.size+1+1+1+1,0,none⟩) (show w.heap.size+1+1+1+1<W.heap.size by omega)).trans h.f4,
  h.below.trans (hb.mono (by omega)),
  by have:=hb.size;omega⟩
theorem Use5.done {w W:World} {A B C D:Int} {a b u v:Value} (h:Use5 w W A B C D a b) (n m:Nat) (hn:zAf W (.agg #[u]) n) (hm:zAf W (.agg #[v]) m) :
  zAf ((W.setCell ⟨w.heap.size+1+1+1,0,none⟩ u).setCell ⟨w.heap.size+1+1+1+1,0,none⟩ v) (.agg #[u]) n∧zAf ((W.setCell ⟨w.heap.size+1+1+1,0,none⟩ u).setCell ⟨w.heap.size+1+1+1+1,0,none⟩ v) (.agg #[v]) m∧Below w.heap.size w ((W.setCell ⟨w.heap.size+1+1+1,0,none⟩ u).setCell ⟨w.heap.size+1+1+1+1,0,none⟩ v):=by
 have hc:(W.setCell ⟨w.heap.size+1+1+1,0,none⟩ u).cell? ⟨w.heap.size+1+1+1+1,0,none⟩=some (.slice none 0 0):=by
  rw[World.cell?_setCell_other _ _ _ _ (by simp)];exact h.r4
 exact⟨(hn.box _ h.r3 (zBi _ _ _)).box _ hc (zBi _ _ _),(hm.box _ h.r3 (zBi _ _ _)).box _ hc (zBi _ _ _),(h.below.setCell (by simp;omega) _).setCell (by simp;omega) _⟩
theorem use_any (x y:Value) (b c N M k:Nat) (A B C D:Int) (w:World) (hx:zAf w x b) (hy:zAf w y c) (hcb:c≤b) (hk:k≤1000000) (hbk:b<1000000000 ^ k)
  (hA:-1000000000≤A∧A≤1000000000) (hB:-1000000000≤B∧B≤1000000000) (hC:-1000000000≤C∧C≤1000000000) (hD:-1000000000≤D∧D≤1000000000) (hs:(0≤A∧B≤0)∨(A≤0∧0≤B)) (hs':(0≤C∧D≤0)∨(C≤0∧0≤D))
  (hN:(N:Int)=A*(b:Int)+B*(c:Int)) (hNb:N≤b) (hM:(M:Int)=C*(b:Int)+D*(c:Int)) (hMb:M≤b) :
  Calls Tryz.prog 209 #[.agg #[.int .i64 A,.int .i64 B,.int .i64 C,.int .i64 D],x,y] w fun e w'=>∃a1 n1 c1 a2 n2 c2,e=.returned (.tuple #[.agg #[.slice a1 n1 c1],.agg #[.slice a2 n2 c2]])∧zAf w' (.agg #[.slice a1 n1 c1]) N∧zAf w' (.agg #[.slice a2 n2 c2]) M∧Below w.heap.size w w':=by
 have H1:=zAb (fun W hx hy=>together_any x y b c N k A B W hx hy hcb hk hbk hA hB hs hN hNb)
 have H2:=zAb (fun W hx hy=>together_any x y b c M k C D W hx hy hcb hk hbk hC hD hs' hM hMb)
 have HX:=zAb hx
 have HY:=zAb hy
 obtain⟨ap,np,cp,rfl⟩:=hx.shape
 obtain⟨aq,nq,cq,rfl⟩:=hy.shape
 clear hx hy hcb hk hbk hA hB hC hD hs hs' hN hNb hM hMb
 go_enter Tryz.func209,Tryz.ntmps209
 go_upto_region 1 with fail
 obtain⟨W,hW⟩:∃W,W=(((((w.alloc (.cells #[.int .i64 A,.int .i64 B,.int .i64 C,.int .i64 D] 227)).alloc (.cells #[.slice ap np cp] 80)).alloc (.cells #[.slice aq nq cq] 80)).alloc (.cells #[.slice none 0 0] 80)).alloc (.cells #[.slice none 0 0] 80)):=⟨_,rfl⟩
 have HU:Hid (Use5 w W A B C D (.slice ap np cp) (.slice aq nq cq)):=by
  rw[hW]
  exact⟨by simp[go_sem],by simp[go_sem],by simp[go_sem],by simp[go_sem],by simp[go_sem],by simp[go_sem],by simp[go_sem],by simp[go_sem],by simp[go_sem],by simp[go_sem],((((((Below.refl _ _).alloc (Nat.le_refl _) _).alloc (by simp) _).alloc (by simp;omega) _).alloc (by simp;omega) _).alloc (by simp;omega) _),by simp⟩
 rw[←hW]
 clear hW
 have s0:=(un HU).s0;have s1:=(un HU).s1;have s2:=(un HU).s2;have s3:=(un HU).s3;have c1:=(un HU).c1;have c2:=(un HU).c2
 go_region_held3 (fun w'=>w'.cell? ⟨w.heap.size,0,none⟩=some (.int .i64 A)∧w'.cell? ⟨w.heap.size,1,none⟩=some (.int .i64 B)∧w'.cell? ⟨w.heap.size,2,none⟩=some (.int .i64 C)∧w'.cell? ⟨w.heap.size,3,none⟩=some (.int .i64 D)∧w'.cell? ⟨w.heap.size+1,0,none⟩=some (.slice ap np cp)∧w'.cell? ⟨w.heap.size+1+1,0,none⟩=some (.slice aq nq cq)) (first|assumption|(refine⟨?_,?_,?_,?_,?_,?_⟩<;>first|assumption|(simp[go_sem, *];done))|(simp[go_sem, *];done))
  (first
   | (go_at_call_of 257 (Value.int IntKind.i64 A);refine(un H1 _ ((un HX).later ((un HU).below.trans ((Below.refl _ _).drew))) ((un HY).later ((un HU).below.trans ((Below.refl _ _).drew)))).mono ?_;rintro e wB ⟨a1,n1,k1,rfl,hr1,hbB⟩;have hbB':Below W.heap.size W wB:=(Below.refl _ _).drew.trans hbB;have HUB:=zAb ((un HU).on hbB');have HR1:=zAb hr1;clear hbB hbB' hr1;have t0:=(un HUB).s0;have t1:=(un HUB).s1;have t2:=(un HUB).s2;have t3:=(un HUB).s3;have d1:=(un HUB).c1;have d2:=(un HUB).c2)
   | (go_at_call_of 257 (Value.int IntKind.i64 C);refine(un H2 wB ((un HX).later (un HUB).below) ((un HY).later (un HUB).below)).mono ?_;rintro e wC ⟨a2,n2,k2,rfl,hr2,hbC⟩;have HUC:=zAb ((un HUB).on hbC);have HR2:=zAb (And.intro ((un HR1).later hbC) hr2);clear hbC hr2;have v0:=(un HUC).s0;have v1:=(un HUC).s1;have v2:=(un HUC).s2;have v3:=(un HUC).s3;have g1:=(un HUC).c1;have g2:=(un HUC).c2;have r3:=(un HUC).r3;have r4:=(un HUC).r4;have f3:=(un HUC).f3;have f4:=(un HUC).f4))
 all_goals (
  obtain⟨q1,q2,q3⟩:=(un HUC).done N M (un HR2).1 (un HR2).2
  go_wp2
  exact bodyPost_ret (v:=.tuple #[.agg #[.slice a1 n1 k1],.agg #[.slice a2 n2 k2]]) (by simp[results,Tryz.results209,go_sem,r3,r4]) rfl ⟨_,_,_,_,_,_,rfl,q1,q2,q3⟩)
end Go.Proofs.YtliadckofhblnaaGreatDoor
namespace Cub
open Go.Lib
theorem getD9_lt {l:List Nat} (h:limbs 1000000000 l) (i:Nat):l.getD i 0<1000000000:=by
 by_cases hq:i<l.length
 ·rw[List.getD_eq_getElem?_getD,List.getElem?_eq_getElem hq];exact h _ (List.getElem_mem hq)
 ·rw[List.getD_eq_getElem?_getD,List.getElem?_eq_none (by omega)];decide
theorem split3 (L:List Nat) (t:Nat) (h:L.length=t+3):L=L.take t ++ [L.getD t 0,L.getD (t+1) 0,L.getD (t+2) 0]:=by
 have e1:=List.take_append_drop t L
 have e2:L.drop t=[L.getD t 0,L.getD (t+1) 0,L.getD (t+2) 0]:=by
  rw[List.drop_eq_getElem_cons (by omega),List.drop_eq_getElem_cons (by omega),List.drop_eq_getElem_cons (by omega),List.drop_of_length_le (by omega)]
  simp[List.getD,show t<L.length by omega,show t+1<L.length by omega,show t+2<L.length by omega]
 rw[e2]at e1
 exact e1.symm
theorem first_of (l:List Nat) (t up e f:Nat) (hl:limbs 1000000000 l) (hlen:l.length≤t+3) (hue:up*e=1000000000) (hV:lval 1000000000 l*up<1000000000 ^ (t+3))
  (hf:f=(l.getD (t+2) 0*1000000000+l.getD (t+1) 0)*up+l.getD t 0 / e) :
  (∃u,lval 1000000000 l*up=f*1000000000 ^ (t+1)+u∧u<1000000000 ^ (t+1))∧f<1000000000000000000:=by
 obtain⟨L,hL⟩:∃L,L=l ++ List.replicate (t+3 - l.length) 0:=⟨_,rfl⟩
 have hLl:L.length=t+3:=by rw[hL];simp;omega
 have hLv:lval 1000000000 L=lval 1000000000 l:=by rw[hL,lval_append,lval_zeros,Nat.mul_zero,Nat.add_zero]
 have hLb:limbs 1000000000 L:=by rw[hL];exact limbs_append.2 ⟨hl,limbs_zeros _ _ (by decide)⟩
 have hg:∀i,L.getD i 0=l.getD i 0:=fun i=>by
  rw[hL]
  by_cases hi:i<l.length
  ·simp[List.getD,List.getElem?_append_left hi]
  ·simp only[List.getD]
   rw[List.getElem?_append_right (by omega),List.getElem?_eq_none (l:=l) (by omega),List.getElem?_replicate]
   split<;>rfl
 obtain⟨u,hu1,hu2⟩:=first_digits (L.take t) (L.getD t 0) (L.getD (t+1) 0) (L.getD (t+2) 0) up e (fun x hx=>hLb x (List.mem_of_mem_take hx)) hue
 rw[←split3 L t hLl,hLv,hg,hg,hg,←hf,List.length_take,hLl,Nat.min_eq_left (by omega)]at hu1
 rw[List.length_take,hLl,Nat.min_eq_left (by omega)]at hu2
 refine⟨⟨u,hu1,hu2⟩,?_⟩
 have h1:f*1000000000 ^ (t+1)<1000000000000000000*1000000000 ^ (t+1):=by
  have e3:(1000000000:Nat) ^ (t+3)=1000000000000000000*1000000000 ^ (t+1):=by
   rw[show t+3=(t+1)+2 by omega,Nat.pow_add,Nat.mul_comm]
  rw[←e3]
  omega
 exact Nat.lt_of_mul_lt_mul_right h1
theorem up_of {l:List Nat} {t:Nat} (h:normal 1000000000 l) (hl:l.length=t+3):∃d,9*(t+3)=nDigits (lval 1000000000 l)+d∧d≤8∧lval 1000000000 l*10 ^ d<1000000000 ^ (t+3):=by
 obtain⟨s,x,rfl⟩:=split_last (l:=l) (by intro e;rw[e]at hl;simp at hl)
 obtain⟨h1,h2,h3⟩:=normal_last h
 have e:=nDigits_top s x h1 h2
 have h9:=nDigits_le9 x h3
 have h0:1≤nDigits x:=by
  have:=decDigits_length x
  have h':(decDigits x).length≠0:=fun e=>dec_ne_nil x (List.length_eq_zero_iff.1 e)
  omega
 have hsl:s.length=t+2:=by simpa using hl
 refine⟨9 - nDigits x,by rw[e,hsl];omega,by omega,?_⟩
 have hlt:=lt_pow_nDigits (lval 1000000000 (s ++ [x]))
 have hp:0<10 ^ (9 - nDigits x):=Nat.pow_pos (by decide)
 have h4:=Nat.mul_lt_mul_of_pos_right hlt hp
 rw[←Nat.pow_add,e,hsl]at h4
 rw[←pow9,show 9*(t+3)=9*(t+2)+nDigits x+(9 - nDigits x) by omega]
 exact h4
def Good (b c:Nat) (A B C D:Int):Prop :=
 (-1000000000≤A∧A≤1000000000)∧(-1000000000≤B∧B≤1000000000)∧(-1000000000≤C∧C≤1000000000)∧(-1000000000≤D∧D≤1000000000)∧((0≤A∧B≤0)∨(A≤0∧0≤B))∧((0≤C∧D≤0)∨(C≤0∧0≤D))∧
 (¬B=0→∃N M:Nat,(N:Int)=A*(b:Int)+B*(c:Int)∧(M:Int)=C*(b:Int)+D*(c:Int)∧N≤c∧M≤N∧M<c∧Nat.gcd N M=Nat.gcd b c)
theorem LS.good {b c:Nat} {x0 y0 x y A B C D:Int} (h:LS (b:Int) (c:Int) x0 y0 x y A B C D):Good b c A B C D:=by
 obtain⟨-,-,-,-,k1,k2,k3,k4,-,-,s1,s2⟩:=h.bounds
 refine⟨k1,k2,k3,k4,s1,s2,fun hB=>?_⟩
 rcases h.now with ⟨_,hB',_⟩|⟨n1,n2⟩
 ·exact absurd hB' hB
 ·have lo:=h.lo;have le:=h.le;have g:=h.gcd
  obtain⟨N,hN⟩:=Int.eq_ofNat_of_zero_le (Int.le_trans lo le)
  obtain⟨M,hM⟩:=Int.eq_ofNat_of_zero_le lo
  rw[hN,hM]at g
  refine⟨N,M,hN.symm,hM.symm,by omega,by omega,by omega,?_⟩
  simpa using g
end Cub
namespace Cub
structure ShortInv (by':Nat) (l D:List Nat) (r j:Nat):Prop where
 len:D.length=l.length
 lim:limbs 1000000000 D
 val:lval 1000000000 (D.drop j)*by'+r=lval 1000000000 (l.drop j)
 rest:r<by'
theorem ShortInv.start (by':Nat) (l:List Nat) (h:0<by'):ShortInv by' l (List.replicate l.length 0) 0 l.length:=by
 refine⟨by simp,limbs_zeros _ _ (by decide),?_,h⟩;rw[List.drop_of_length_le (by simp),List.drop_of_length_le (by simp)];simp[lval]
theorem ShortInv.step {by':Nat} {l D:List Nat} {r j:Nat} (h:ShortInv by' l D r (j+1)) (hj:j<l.length) (hx:l[j]<1000000000) :
 ShortInv by' l (D.set j ((r*1000000000+l[j]) / by')) ((r*1000000000+l[j]) % by') j:=by
 have hjD:j<D.length:=by rw[h.len];exact hj
 have hr:=h.rest
 have hq:(r*1000000000+l[j]) / by'<1000000000:=by
  rw[Nat.div_lt_iff_lt_mul (by omega)];have:(r+1)*1000000000≤by'*1000000000:=Nat.mul_le_mul_right _ hr
  rw[Nat.mul_comm 1000000000 by']
  omega
 refine⟨by rw[List.length_set];exact h.len,limbs_set h.lim _ _ hq,?_,Nat.mod_lt _ (by omega)⟩
 have e1:(D.set j ((r*1000000000+l[j]) / by')).drop j=((r*1000000000+l[j]) / by') :: D.drop (j+1):=by
  rw[List.drop_eq_getElem_cons (by simpa using hjD)]
  congr 1
  ·simp
  ·rw[List.drop_set_of_lt (by omega)]
 rw[e1,List.drop_eq_getElem_cons hj];show((r*1000000000+l[j]) / by'+1000000000*lval 1000000000 (D.drop (j+1)))*by'+(r*1000000000+l[j]) % by'=l[j]+1000000000*lval 1000000000 (l.drop (j+1))
 rw[←h.val];have e2:=Nat.div_add_mod (r*1000000000+l[j]) by'
 generalize (r*1000000000+l[j]) / by'=q at *
 generalize (r*1000000000+l[j]) % by'=s at *
 generalize lval 1000000000 (D.drop (j+1))=V at *
 rw[Nat.add_mul,Nat.mul_add,Nat.mul_assoc,Nat.mul_comm q by']
 omega
theorem ShortInv.last {by':Nat} {l D:List Nat} {r:Nat} (h:ShortInv by' l D r 0):lval 1000000000 D=lval 1000000000 l / by'∧r=lval 1000000000 l % by':=by
 have h1:=h.val;rw[List.drop_zero,List.drop_zero]at h1;have h2:=h.rest;rw[←h1,Nat.mul_comm];refine⟨?_,?_⟩
 ·rw[Nat.mul_add_div (by omega),Nat.div_eq_of_lt h2];rfl
 ·rw[Nat.mul_add_mod,Nat.mod_eq_of_lt h2]
end Cub
namespace Go.Proofs.YtliadckofhblnaaGreatDoor
open Go.RowKit
structure Res2 (w w4:World) (a:Value):Prop where
 c1:w4.cell? ⟨w.heap.size,0,none⟩=some a
 c2:w4.cell? ⟨w.heap.size+1,0,none⟩=some (.slice none 0 0)
 f2:w4.frozen? ⟨w.heap.size+1,0,none⟩=false
 c3:w4.cell? ⟨w.heap.size+1+1,0,none⟩=some (.slice none 0 0)
 f3:w4.frozen? ⟨w.heap.size+1+1,0,none⟩=false
 below:Below w.heap.size w w4
 size:w.heap.size+3≤w4.heap.size
theorem res2 {w w4:World} {a:Value} (hb:Below (w.heap.size+3) (((w.alloc (.cells #[a] 80)).alloc (.cells #[.slice none 0 0] 80)).alloc (.cells #[.slice none 0 0] 80)) w4):Res2 w w4 a:=by
 refine⟨?_,?_,?_,?_,?_,?_,?_⟩
 ·rw[hb.cell (p:=⟨w.heap.size,0,none⟩) (show w.heap.size<w.heap.size+3 by omega)];simp[go_sem]
 ·rw[hb.cell (p:=⟨w.heap.size+1,0,none⟩) (show w.heap.size+1<w.heap.size+3 by omega)];simp[go_sem]
 ·rw[hb.frozen (p:=⟨w.heap.size+1,0,none⟩) (show w.heap.size+1<w.heap.size+3 by omega)];simp[go_sem]
 ·rw[hb.cell (p:=⟨w.heap.size+1+1,0,none⟩) (show w.heap.size+1+1<w.heap.size+3 by omega)];simp[go_sem]
 ·rw[hb.frozen (p:=⟨w.heap.size+1+1,0,none⟩) (show w.heap.size+1+1<w.heap.size+3 by omega)];simp[go_sem]
 ·exact((bA.alloc (by simp) _).alloc (by simp;omega) _).trans (hb.mono (by omega))
 ·have:=hb.size;simp at this;omega
theorem Res2.on {w w4 w5:World} {a:Value} (h:Res2 w w4 a) (hb:Below (w.heap.size+3) w4 w5):Res2 w w5 a :=
 ⟨(hb.cell (p:=⟨w.heap.size,0,none⟩) (show w.heap.size<w.heap.size+3 by omega)).trans h.c1,(hb.cell (p:=⟨w.heap.size+1,0,none⟩) (show w.heap.size+1<w.heap.size+3 by omega)).trans h.c2,
  (hb.frozen (p:=⟨w.heap.size+1,0,none⟩) (show w.heap.size+1<w.heap.size+3 by omega)).trans h.f2,
  (hb.cell (p:=⟨w.heap.size+1+1,0,none⟩) (show w.heap.size+1+1<w.heap.size+3 by omega)).trans h.c3,(hb.frozen (p:=⟨w.heap.size+1+1,0,none⟩) (show w.heap.size+1+1<w.heap.size+3 by omega)).trans h.f3,
  h.below.trans (hb.mono (by omega)),by have:=hb.size;have:=h.size;omega⟩
theorem Res2.done {w w4:World} {a u v:Value} (h:Res2 w w4 a) (n m:Nat) (hn:zAf w4 (.agg #[u]) n) (hm:zAf w4 (.agg #[v]) m) :
 zAf ((w4.setCell ⟨w.heap.size+1,0,none⟩ u).setCell ⟨w.heap.size+1+1,0,none⟩ v) (.agg #[u]) n∧zAf ((w4.setCell ⟨w.heap.size+1,0,none⟩ u).setCell ⟨w.heap.size+1+1,0,none⟩ v) (.agg #[v]) m∧Bw w ((w4.setCell ⟨w.heap.size+1,0,none⟩ u).setCell ⟨w.heap.size+1+1,0,none⟩ v):=by
 have hc:(w4.setCell ⟨w.heap.size+1,0,none⟩ u).cell? ⟨w.heap.size+1+1,0,none⟩=some (.slice none 0 0):=by
  rw[World.cell?_setCell_other _ _ _ _ (by simp)];exact h.c3
 exact⟨(hn.box _ h.c2 (zBi _ _ _)).box _ hc (zBi _ _ _),(hm.box _ h.c2 (zBi _ _ _)).box _ hc (zBi _ _ _),(h.below.setCell (by simp) _).setCell (by simp;omega) _⟩
theorem div_cast (s x d:Nat):(((s*1000000000+x) / d:Nat):Int)=((s:Int)*1000000000+(x:Int)) / (d:Int):=by
 rw[Int.natCast_ediv,Int.natCast_add,Int.natCast_mul];rfl
theorem mod_cast' (s x d:Nat):(((s*1000000000+x) % d:Nat):Int)=((s:Int)*1000000000+(x:Int)) % (d:Int):=by
 rw[Int.natCast_emod,Int.natCast_add,Int.natCast_mul];rfl
theorem divShort_any (x:Value) (m d k:Nat) (w:World) (hx:zAf w x m) (hk:k≤1000000) (hm:m<1000000000 ^ k) (hd:0<d) (hd2:d<1000000000) :
 Calls Tryz.prog 213 #[x,.int .u64 (d:Int)] w fun e w'=>∃a1 n1 c1 a2 n2 c2,e=.returned (.tuple #[.agg #[.slice a1 n1 c1],.agg #[.slice a2 n2 c2]])∧zAf w' (.agg #[.slice a1 n1 c1]) (m / d)∧zAf w' (.agg #[.slice a2 n2 c2]) (m % d)∧Bw w w':=by
 obtain⟨ap,lp,cp,rfl,hlp,hrp,hnp,rfl⟩:=hx.form;have h1:=Cub.len_le hnp hm;have HP:Hid (Cub.limbs 1000000000 lp∧Cells w ap lp):=⟨hnp.1,hrp.cells.2.2.2⟩;obtain⟨np,hnp'⟩:∃np,np=lp.length:=⟨_,rfl⟩;rw[←hnp']at h1 ⊢;have HNP:=zAb hnp';have HS:Hid (Cub.ShortInv d lp (List.replicate np 0) 0 np):=by rw[hnp'];exact Cub.ShortInv.start d lp hd
 clear hx hm hlp hrp hnp hnp';obtain⟨i0,hi,hz0,hz1,hz2⟩:=info_parts Tryz.info168;go_enter Tryz.func213,Tryz.ntmps213
 go_wp2_with (first
  | (at_make;go_must(refine wpList_make_full _ rfl _ _ 78 rfl (w.heap.size+3) 168 i0 (.int .u64 0) 1 Tryz.underlying78 hi hz0 hz1 .i64 .i64 _ _ np rfl rfl (by omega) (by omega) (by rw[hz2];omega) (by unfold maxLen;omega) (by simp) ?_;intro w4 hown4 hgrow4;rw[zDw]at hown4;have hO4:Own w4 (w.heap.size+1+1+1) (List.replicate np 0):=(by have:=Own.of_row hown4;simpa using this);have hB4:=res2 ((Below.refl (w.heap.size+3) _).grown hgrow4 (by simp) (fun k hk=>by cases hk));have bp4:=hB4.c1;have HO4:=zAb hO4;have HB4:=zAb hB4;clear hown4 hgrow4 hO4 hB4)))
 go_loopw [7,8] (fun r t wr=>∃(s j:Nat) (D:List Nat),r=.int .u64 (s:Int)∧t=I ((j:Int) - 1)∧j≤np∧s<d∧Hid (Cub.ShortInv d lp D s j)∧Hid (Own wr (w.heap.size+1+1+1) D)∧Hid (Res2 w wr (.slice ap np cp))) (fun _ t _=>(intOf t+1).toNat)
 case atStart=>exact⟨0,np,_,rfl,by go_num,Nat.le_refl _,hd,HS,HO4,HB4⟩
 case round=>
  obtain⟨s,j,D,rfl,rfl,hj,hs,HI,HO,HB⟩:=hrel;clear bp4;have bp:=(un HB).c1
  by_cases hj0:j=0
  ·subst hj0
   obtain⟨t1,t2,_⟩:=Cub.lval_trim 1000000000 _ D rfl;have hlast:=(un HI).last;have HF:Hid (Cub.normal 1000000000 (Cub.trimN D)∧Cub.lval 1000000000 (Cub.trimN D)=Cub.lval 1000000000 lp / d∧s=Cub.lval 1000000000 lp % d):=⟨t2 (un HI).lim,t1.trans hlast.1,hlast.2⟩;have hsz:=(un HB).size;have HL:Hid (D.length=np):=by rw[(un HI).len,←un HNP];exact rfl
   clear t1 t2 hlast
   go_wp2_with (first
    | (go_at_call 217;go_must(refine(zEi _ D _ ((un HO).row np np (un HL).symm (Nat.le_refl _) (by unfold maxLen;omega))).mono ?_;rintro e w6 ⟨v',rfl,hrow6,hb6⟩;obtain⟨a6,cap6,rfl,hcap6⟩:=hrow6.form;have HB6:=zAb ((un HB).on (hb6.mono hsz));have HR6:Hid (zAf w6 (.agg #[.slice a6 (Cub.trimN D).length cap6]) (Cub.lval 1000000000 lp / d)):=⟨_,_,rfl,hrow6,(un HF).1,(un HF).2.1⟩;clear hrow6 hb6 bp))
    | (go_at_call 210;go_must(refine(zFa s _ (by omega)).mono ?_;rintro e w7 ⟨a7,n7,c7,rfl,hbig7,hb7⟩;have HB7:=zAb ((un HB6).on (hb7.mono (un HB6).size));have HR7:=zAb ((un HR6).later hb7);have HS7:=zAb hbig7;clear hbig7 hb7;have b2:=(un HB7).c2;have f2:=(un HB7).f2;have b3:=(un HB7).c3;have f3:=(un HB7).f3)))
   obtain⟨r1,r2,r3⟩:=(un HB7).done _ _ (un HR7) (un HS7);refine bodyPost_ret (v:=.tuple #[.agg #[.slice a6 (Cub.trimN D).length cap6],.agg #[.slice a7 n7 c7]]) (by simp[results,Tryz.results213,go_sem,b2,b3]) rfl ⟨_,_,_,_,_,_,rfl,r1,?_,r3⟩;rw[←(un HF).2.2];exact r2
  ·obtain⟨i,rfl⟩:∃i,j=i+1:=⟨j - 1,by omega⟩
   have hil:i<lp.length:=by have:=un HNP;omega
   have hiD:i<D.length:=by rw[(un HI).len];exact hil
   obtain⟨xv,hxv⟩:∃xv,xv=lp[i]:=⟨_,rfl⟩;have hxB:xv<1000000000:=by rw[hxv];exact(un HP).1 _ (List.getElem_mem hil)
   obtain⟨b1,o1,rfl,hcx⟩:=(un HP).2 wr (un HB).below i hil;rw[←hxv]at hcx
   have HI':Hid (Cub.ShortInv d lp (D.set i ((s*1000000000+xv) / d)) ((s*1000000000+xv) % d) i):=by
    have:=(un HI).step hil (by rw[←hxv];exact hxB);rw[←hxv]at this;exact this
   have hco:=(un HO).cell i hiD;have hfo:=(un HO).frozen i;have hsB:s*1000000000+xv<1000000000000000000:=by omega
   have HO':Hid (Own (wr.setCell ⟨w.heap.size+1+1+1,i,none⟩ (.int .u64 (((s:Int)*1000000000+(xv:Int)) / (d:Int)))) (w.heap.size+1+1+1) (D.set i ((s*1000000000+xv) / d))):=by
    have:=(un HO).set i ((s*1000000000+xv) / d);rw[show(((s*1000000000+xv) / d:Nat):Int)=((s:Int)*1000000000+(xv:Int)) / (d:Int)from div_cast s xv d]at this;exact this
   have HB':Hid (Res2 w (wr.setCell ⟨w.heap.size+1+1+1,i,none⟩ (.int .u64 (((s:Int)*1000000000+(xv:Int)) / (d:Int)))) (.slice (some ⟨b1,o1,none⟩) np cp)) :=
    (un HB).on ((Below.refl (w.heap.size+3) wr).setCell (p:=⟨w.heap.size+1+1+1,i,none⟩) (show w.heap.size+3≤w.heap.size+1+1+1 by omega) _)
   have hmd:(s*1000000000+xv) % d<d:=Nat.mod_lt _ hd;rw[show(((i+1:Nat):Int) - 1)=(i:Int)from by omega];clear hxv HI
   go_wp2
   go_roundw
   case rel=>exact⟨(s*1000000000+xv) % d,i,_,by rw[mod_cast'],by go_num,by omega,hmd,HI',HO',HB'⟩
   case measure=>simp[intOf]
end Go.Proofs.YtliadckofhblnaaGreatDoor
namespace Go.Proofs.YtliadckofhblnaaGreatDoor
open Go.RowKit
theorem mulS (x y:Value) (m n r k:Nat) (w:World) (hx:zAf w x m) (hy:zAf w y n) (hk:k≤1000000) (hm:m<1000000000 ^ k) (hn:n<1000000000 ^ k) (hr:r=m*n) :
  Calls Tryz.prog 151 #[x,y] w fun e w'=>∃a l c,e=.returned (.agg #[.slice a l c])∧zAf w' (.agg #[.slice a l c]) r∧Bw w w':=by
 subst hr;refine(mul_any x y m n k w hx hy hk hm hn).mono ?_;rintro e w' ⟨v,rfl,hv,hb⟩;obtain⟨a,n,c,rfl⟩:=hv.shape;exact⟨a,n,c,rfl,hv,hb⟩
theorem ten_step (i n p:Nat) (hp:p=10 ^ i) (h:i<n) (hn:n≤18):p*10≤1000000000000000000∧p*10=10 ^ (i+1):=by
 subst hp;rw[←Nat.pow_succ];exact⟨Nat.pow_le_pow_right (n:=10) (by decide) (show i+1≤18 by omega),rfl⟩
theorem tenTo_any (n T:Nat) (w:World) (hn:n≤18) (hT:T=10 ^ n) :
  Calls Tryz.prog 255 #[I (n:Int)] w fun e w'=>e=.returned (.int .u64 (T:Int))∧w'=w:=by
 have HT:=zAb hT;clear hT;go_enter Tryz.func255,Tryz.ntmps255
 go_wp2
 go_loop [3,5] (fun a t=>∃p i:Nat,a=.int .u64 (p:Int)∧t=I (i:Int)∧i≤n∧Hid (p=10 ^ i)) (fun _ t=>n - (intOf t).toNat)
 case atStart=>exact⟨1,0,rfl,rfl,Nat.zero_le _,rfl⟩
 case round=>
  obtain⟨p,i,rfl,rfl,hi,HP⟩:=hrel
  by_cases hin:i<n
  ·obtain⟨h1,h2⟩:=ten_step i n p (un HP) hin hn
   have HP':Hid (p*10=10 ^ (i+1)):=h2;clear h2
   go_wp2
   go_round
   case rel=>exact⟨p*10,i+1,by go_num,by go_num,by omega,HP'⟩
   case measure=>simp[intOf];omega
  ·have hie:i=n:=by omega
   subst hie
   go_wp2
   go_ret
   exact⟨by rw[un HT,←un HP];rfl,rfl⟩
structure Many3 (w W:World) (a b:Value):Prop where
 c1:W.cell? ⟨w.heap.size,0,none⟩=some a
 c2:W.cell? ⟨w.heap.size+1,0,none⟩=some b
 r0:W.cell? ⟨w.heap.size+1+1,0,none⟩=some (I 0)
 r1:W.cell? ⟨w.heap.size+1+1,1,none⟩=some (I 0)
 r2:W.cell? ⟨w.heap.size+1+1,2,none⟩=some (I 0)
 r3:W.cell? ⟨w.heap.size+1+1,3,none⟩=some (I 0)
 fr:∀i,W.frozen? ⟨w.heap.size+1+1,i,none⟩=false
 size:w.heap.size+3≤W.heap.size
theorem Many3.on {w W V:World} {a b:Value} (h:Many3 w W a b) (hb:Below W.heap.size W V):Many3 w V a b:=by
 have hz:=h.size
 exact⟨(hb.cell (p:=⟨w.heap.size,0,none⟩) (show w.heap.size<W.heap.size by omega)).trans h.c1,(hb.cell (p:=⟨w.heap.size+1,0,none⟩) (show w.heap.size+1<W.heap.size by omega)).trans h.c2,
  (hb.cell (p:=⟨w.heap.size+1+1,0,none⟩) (show w.heap.size+1+1<W.heap.size by omega)).trans h.r0,(hb.cell (p:=⟨w.heap.size+1+1,1,none⟩) (show w.heap.size+1+1<W.heap.size by omega)).trans h.r1,
  (hb.cell (p:=⟨w.heap.size+1+1,2,none⟩) (show w.heap.size+1+1<W.heap.size by omega)).trans h.r2,(hb.cell (p:=⟨w.heap.size+1+1,3,none⟩) (show w.heap.size+1+1<W.heap.size by omega)).trans h.r3,
  fun i=>(hb.frozen (p:=⟨w.heap.size+1+1,i,none⟩) (show w.heap.size+1+1<W.heap.size by omega)).trans (h.fr i),by have:=hb.size;omega⟩
structure St4 (U W:World) (A B C D:Int):Prop where
 q0:W.cell? ⟨U.heap.size,0,none⟩=some (I A)
 q1:W.cell? ⟨U.heap.size,1,none⟩=some (I B)
 q2:W.cell? ⟨U.heap.size,2,none⟩=some (I C)
 q3:W.cell? ⟨U.heap.size,3,none⟩=some (I D)
 fr:∀i,W.frozen? ⟨U.heap.size,i,none⟩=false
 below:Below U.heap.size U W
theorem zBr (W:World) {g i j:Nat} {u v:Value} (h:W.cell? ⟨g,j,none⟩=some v) (hij:i≠j):(W.setCell ⟨g,i,none⟩ u).cell? ⟨g,j,none⟩=some v:=by
 rw[World.cell?_setCell_other _ _ _ _ (by intro e;simp only[Addr.mk.injEq]at e;exact hij e.2.1)];exact h
theorem zHr (W:World) {g i:Nat} {u v:Value} (h:W.cell? ⟨g,i,none⟩=some v):(W.setCell ⟨g,i,none⟩ u).cell? ⟨g,i,none⟩=some u :=
 World.cell?_setCell_same' _ _ _ (by rw[h];rfl)
theorem St4.set {U W:World} {A B C D:Int} (h:St4 U W A B C D) (a b c d:Int) :
 St4 U ((((W.setCell ⟨U.heap.size,0,none⟩ (I a)).setCell ⟨U.heap.size,1,none⟩ (I b)).setCell ⟨U.heap.size,2,none⟩ (I c)).setCell ⟨U.heap.size,3,none⟩ (I d)) a b c d:=by
 refine⟨?_,?_,?_,?_,?_,?_⟩
 ·exact zBr _ (zBr _ (zBr _ (zHr _ h.q0) (by decide)) (by decide)) (by decide)
 ·exact zBr _ (zBr _ (zHr _ (zBr _ h.q1 (by decide))) (by decide)) (by decide)
 ·exact zBr _ (zHr _ (zBr _ (zBr _ h.q2 (by decide)) (by decide))) (by decide)
 ·exact zHr _ (zBr _ (zBr _ (zBr _ h.q3 (by decide)) (by decide)) (by decide))
 ·intro i;simp only[World.frozen?_setCell];exact h.fr i
 ·exact(((h.below.setCell (Nat.le_refl _) _).setCell (Nat.le_refl _) _).setCell (Nat.le_refl _) _).setCell (Nat.le_refl _) _
theorem St4.first (U:World):St4 U (U.alloc (.cells #[I 1,I 0,I 0,I 1] 227)) 1 0 0 1 :=
 ⟨by simp[go_sem],by simp[go_sem],by simp[go_sem],by simp[go_sem],fun i=>by simp[go_sem],bA⟩
theorem many_any (x y:Value) (b c k:Nat) (w:World) (hx:zAf w x b) (hy:zAf w y c) (hcb:c≤b) (hc:1000000000000000000≤c) (hk:k≤100000) (hbk:b<1000000000 ^ k) :
 Calls Tryz.prog 208 #[x,y] w fun e w'=>∃A B C D:Int,e=.returned (.agg #[I A,I B,I C,I D])∧Hid (Cub.Good b c A B C D)∧Bw w w':=by
 have HX:=zAb hx;have HY:=zAb hy;obtain⟨ap,lp,cp,rfl,hlp,hrp,hnp,hvp⟩:=hx.form;obtain⟨aq,lq,cq,rfl,hlq,hrq,hnq,hvq⟩:=hy.form;have h1:lp.length≤k:=Cub.len_le hnp (by rw[hvp];exact hbk)
 have h3:¬lp.length≤2:=fun h=>by
  have:=Cub.lval_lt hnp.1;have h2:(1000000000:Nat) ^ lp.length≤1000000000 ^ 2:=Nat.pow_le_pow_right (by decide) h
  omega
 obtain⟨t,ht⟩:∃t,lp.length=t+3:=⟨lp.length - 3,by omega⟩
 have h2:lq.length≤t+3:=by
  rw[←ht];exact Cub.len_le hnq (by have:=Cub.lval_lt hnp.1;omega)
 obtain⟨d,hd1,hd2,hd3⟩:=Cub.up_of hnp ht;rw[hvp]at hd1 hd3;obtain⟨up,hup⟩:∃up,up=10 ^ d:=⟨_,rfl⟩;rw[←hup]at hd3;obtain⟨e,he⟩:∃e,e=10 ^ (9 - d):=⟨_,rfl⟩;have hue:up*e=1000000000:=by rw[hup,he,←Nat.pow_add,show d+(9 - d)=9 by omega]
 have hup0:0<up:=by rw[hup];exact Nat.pow_pos (by decide)
 have he0:0<e:=by rw[he];exact Nat.pow_pos (by decide)
 have hup9:up≤1000000000:=by rw[←hue];exact Nat.le_mul_of_pos_right _ he0
 have hee:e=1000000000 / up:=by rw[←hue,Nat.mul_div_cancel_left _ hup0]
 obtain⟨X,hX⟩:∃X,X=(lp.getD (t+2) 0*1000000000+lp.getD (t+1) 0)*up+lp.getD t 0 / e:=⟨_,rfl⟩;obtain⟨Y,hY⟩:∃Y,Y=(lq.getD (t+2) 0*1000000000+lq.getD (t+1) 0)*up+lq.getD t 0 / e:=⟨_,rfl⟩;obtain⟨⟨u,hu1,hu2⟩,hX18⟩:=Cub.first_of lp t up e X hnp.1 (by omega) hue (by rw[hvp];exact hd3) hX;obtain⟨⟨v,hv1,hv2⟩,hY18⟩:=Cub.first_of lq t up e Y hnq.1 h2 hue (by rw[hvq];exact Nat.lt_of_le_of_lt (Nat.mul_le_mul_right _ hcb) hd3) hY;rw[hvp]at hu1;rw[hvq]at hv1;obtain⟨P,hP⟩:∃P,P=1000000000 ^ (t+1):=⟨_,rfl⟩;have hP0:0<P:=by rw[hP];exact Nat.pow_pos (by decide)
 rw[←hP]at hu1 hu2 hv1 hv2;have hXh:=Nat.lt_of_le_of_lt (Nat.le_add_right _ _) (hX ▸ hX18);have hYh:=Nat.lt_of_le_of_lt (Nat.le_add_right _ _) (hY ▸ hY18);have H69:=zAb (fun W hW=>zGu (.agg #[.slice ap lp.length cp]) b k W hW (by omega) hbk);have H109:=zAb (fun W=>tenTo_any d up W (by omega) hup);have H110x:=zAb (fun W (hW:Below w.heap.size w W)=>first_any ap lp cp t up _ _ _ _ e X W (hrp.later hW) rfl rfl rfl (by omega) (Cub.getD9_lt hnp.1 _) (Cub.getD9_lt hnp.1 _) (Cub.getD9_lt hnp.1 _) rfl hup0 hup9 hee hX hXh);have H110y:=zAb (fun W (hW:Below w.heap.size w W)=>first_any aq lq cq t up _ _ _ _ e Y W (hrq.later hW) rfl rfl rfl (by omega) (Cub.getD9_lt hnq.1 _) (Cub.getD9_lt hnq.1 _) (Cub.getD9_lt hnq.1 _) rfl hup0 hup9 hee hY hYh)
 have HLS:Hid (∀x y A B C D q:Int,Cub.LS b c X Y x y A B C D→y+C≠0→y+D≠0→q=(x+A) / (y+C)→q=(x+B) / (y+D)→Cub.LS b c X Y y (x - q*y) C D (A - q*C) (B - q*D)∧x - q*y<y∧0≤q):=fun x y A B C D q h e1 e2 q1 q2=>
  h.step (U:=(up:Int)) (P:=(P:Int)) (u:=(u:Int)) (v:=(v:Int)) e1 e2 q1 q2 (by omega) (by omega) (by exact_mod_cast hu1) (by exact_mod_cast hv1) (by omega) (by omega) (by omega) (by omega) (by omega) (by omega)
 have HL0:Hid (Cub.LS b c X Y X Y 1 0 0 1):=Cub.LS.start (by omega) (by omega) (by omega) (by omega) (by omega) (by omega);rw[ht]at H69 H110x ⊢;have HD:Hid ((9*((t:Int)+3)) - ((Lib.nDigits b:Nat):Int)=(d:Int)):=by show _=_;omega
 have hnd:Lib.nDigits b≤9*(t+3):=by omega
 generalize Lib.nDigits b=nd at *
 generalize lq.length=nq at *
 have htk:t≤100000:=by omega
 have H109':Hid (∀W:World,Calls Tryz.prog 255 #[I (9*((t:Int)+3) - (nd:Int))] W fun e w'=>e=.returned (.int .u64 (up:Int))∧w'=W):=fun W=>by rw[un HD];exact un H109 W
 have H110x':Hid (∀W:World,Below w.heap.size w W→Calls Tryz.prog 256 #[.agg #[.slice ap (t+3) cp],I ((t:Int)+3 - 1),.int .u64 (up:Int)] W fun e w'=>e=.returned (.int .u64 (X:Int))∧Bw W w'):=fun W hW=>by
  have:=un H110x W hW;rw[show((t+2:Nat):Int)=(t:Int)+3 - 1 by omega]at this;exact this
 have H110y':Hid (∀W:World,Below w.heap.size w W→Calls Tryz.prog 256 #[.agg #[.slice aq nq cq],I ((t:Int)+3 - 1),.int .u64 (up:Int)] W fun e w'=>e=.returned (.int .u64 (Y:Int))∧Bw W w'):=fun W hW=>by
  have:=un H110y W hW;rw[show((t+2:Nat):Int)=(t:Int)+3 - 1 by omega]at this;exact this
 clear H109 H110x H110y HD;clear hx hy hcb hc hbk hlp hlq hrp hrq hnp hnq hvp hvq h1 h3 h2 hd1 hd3 hup he hue hup0 he0 hup9 hee hX hY hXh hYh hu1 hu2 hv1 hv2 hP hP0;go_enter Tryz.func208,Tryz.ntmps208
 go_upto_region 2 with fail
 obtain⟨W,hW⟩:∃W,W=(((w.alloc (.cells #[.slice ap (t+3) cp] 80)).alloc (.cells #[.slice aq nq cq] 80)).alloc (.cells #[I 0,I 0,I 0,I 0] 227)):=⟨_,rfl⟩;have HW:Hid (Bw w W):=by rw[hW];exact(bA.alloc (by simp) _).alloc (by simp;omega) _
 have HM:Hid (Many3 w W (.slice ap (t+3) cp) (.slice aq nq cq)):=by
  rw[hW];exact⟨by simp[go_sem],by simp[go_sem],by simp[go_sem],by simp[go_sem],by simp[go_sem],by simp[go_sem],fun i=>by simp[go_sem],by simp⟩
 rw[←hW];clear hW;have c1:∀z:zBy W,z.world.cell? ⟨w.heap.size,0,none⟩=some (.slice ap (t+3) cp):=fun z=>((un HM).on z.below).c1
 have c2:∀z:zBy W,z.world.cell? ⟨w.heap.size+1,0,none⟩=some (.slice aq nq cq):=fun z=>((un HM).on z.below).c2
 have H69z:Hid (∀z:zBy W,Calls Tryz.prog 119 #[.agg #[.slice ap (t+3) cp]] z.world fun e w'=>e=.returned (I (nd:Int))∧Below z.world.heap.size z.world w'):=fun z=>un H69 _ (by have:=(un HX).later ((un HW).trans (z.below.mono (un HW).size));rw[ht]at this;exact this)
 clear H69;refine zCz (by kernel_rfl) (by kernel_rfl) ?_
 iterate 6 (go_big_quiet_step ((rename_i xx;refine(un H69z xx).mono ?_;rintro e w9 ⟨rfl,hb9⟩;have hz:=xx.below.trans (hb9.mono xx.below.size);first|exact⟨rfl,⟨w9,hz⟩,rfl⟩|exact⟨rfl,hz⟩|exact⟨rfl,w9,hz,rfl⟩)))
 repeat (go_big_quiet_step ((rename_i xx;refine(un H109' xx.world).mono ?_;rintro e w9 ⟨rfl,hb9⟩;have hz:=xx.below;rw[←hb9]at hz;first|exact⟨rfl,⟨w9,hz⟩,rfl⟩|exact⟨rfl,hz⟩|exact⟨rfl,w9,hz,rfl⟩)))
 refine wpQuiet_nil ?_;intro _ hw';obtain⟨xz,hw''⟩:=hw';subst hw'';obtain⟨V,hV⟩:∃V,V=xz.world:=⟨_,rfl⟩;have HWV:Hid (Bw W V):=by rw[hV];exact xz.below
 rw[←hV];clear hV H69z H109'
 replace c1:∀z:zBy V,z.world.cell? ⟨w.heap.size,0,none⟩=some (.slice ap (t+3) cp):=fun z=>c1 ⟨z.world,(un HWV).trans (z.below.mono (un HWV).size)⟩
 replace c2:∀z:zBy V,z.world.cell? ⟨w.heap.size+1,0,none⟩=some (.slice aq nq cq):=fun z=>c2 ⟨z.world,(un HWV).trans (z.below.mono (un HWV).size)⟩
 have hXi:(X:Int)<1000000000000000000:=by omega
 have hYi:(Y:Int)<1000000000000000000:=by omega
 go_upto_region 3 with fail
 refine zCz (by kernel_rfl) (by kernel_rfl) ?_
 iterate 5 (go_big_quiet_step ((rename_i xx;refine(un H110x' _ ((un HW).trans (((un HWV).trans (xx.below.mono (un HWV).size)).mono (un HW).size))).mono ?_;rintro e w9 ⟨rfl,hb9⟩;have hz:=xx.below.trans (hb9.mono xx.below.size);first|exact⟨rfl,⟨w9,hz⟩,rfl⟩|exact⟨rfl,hz⟩|exact⟨rfl,w9,hz,rfl⟩)))
 repeat (go_big_quiet_step ((rename_i xx;refine(un H110y' _ ((un HW).trans (((un HWV).trans (xx.below.mono (un HWV).size)).mono (un HW).size))).mono ?_;rintro e w9 ⟨rfl,hb9⟩;have hz:=xx.below.trans (hb9.mono xx.below.size);first|exact⟨rfl,⟨w9,hz⟩,rfl⟩|exact⟨rfl,hz⟩|exact⟨rfl,w9,hz,rfl⟩)))
 refine wpQuiet_nil ?_;intro _ hw';obtain⟨xy,hw''⟩:=hw';subst hw'';obtain⟨U,hU⟩:∃U,U=xy.world:=⟨_,rfl⟩;have HWU:Hid (Bw W U):=by rw[hU];exact(un HWV).trans (xy.below.mono (un HWV).size)
 rw[←hU];clear hU H110x' H110y' c1 c2 HWV;have HMU:=zAb ((un HM).on (un HWU));have HBU:=zAb ((un HW).trans ((un HWU).mono (un HW).size));clear HM HWU HW
 go_wp2_with fail
 go_loopw [7,8] (fun v7 v8 wr=>∃(x y A B C D:Int),v7=I x∧v8=I y∧Hid (Cub.LS b c X Y x y A B C D)∧Hid (St4 U wr A B C D)) (fun _ v8 _=>(intOf v8).toNat)
 case atStart=>exact⟨X,Y,1,0,0,1,rfl,rfl,HL0,St4.first U⟩
 case round=>
  obtain⟨x,y,A,B,C,D,rfl,rfl,HL,HS⟩:=hrel;clear HL0 hXi hYi hX18 hY18;obtain⟨x1,x2,y1,y2,⟨a1,a2⟩,⟨b1,b2⟩,⟨c1,c2⟩,⟨d1,d2⟩,x0,y0,-,-⟩:=(un HL).bounds;have x3:=(un HL).hx;have y3:=(un HL).hy;have q0:=(un HS).q0;have q1:=(un HS).q1;have q2:=(un HS).q2;have q3:=(un HS).q3;have r0:=((un HMU).on (un HS).below).r0;have r1:=((un HMU).on (un HS).below).r1;have r2:=((un HMU).on (un HS).below).r2;have r3:=((un HMU).on (un HS).below).r3;have fr:=((un HMU).on (un HS).below).fr;have HE:Hid (Cub.Good b c A B C D∧Bw w wr):=⟨(un HL).good,(un HBU).trans ((un HS).below.mono (un HBU).size)⟩
  by_cases h1:y+C=0
  ·have e1:((y+C) != 0)=false:=by rw[h1];rfl
   clear h1
   go_wp2_with fail
   exact bodyPost_ret (v:=.agg #[I A,I B,I C,I D]) (by simp[results,Tryz.results208,go_sem,r0,r1,r2,r3]) rfl ⟨A,B,C,D,rfl,(un HE).1,((((un HE).2.setCell (by simp;omega) _).setCell (by simp;omega) _).setCell (by simp;omega) _).setCell (by simp;omega) _⟩
  ·have e1:((y+C) != 0)=true:=by rw[bne_iff_ne];exact h1
   by_cases h2:y+D=0
   ·have e2:((y+D) != 0)=false:=by rw[h2];rfl
    clear h1 h2
    go_wp2_with fail
    exact bodyPost_ret (v:=.agg #[I A,I B,I C,I D]) (by simp[results,Tryz.results208,go_sem,r0,r1,r2,r3]) rfl ⟨A,B,C,D,rfl,(un HE).1,((((un HE).2.setCell (by simp;omega) _).setCell (by simp;omega) _).setCell (by simp;omega) _).setCell (by simp;omega) _⟩
   ·have e2:((y+D) != 0)=true:=by rw[bne_iff_ne];exact h2
    have y4:0<y+C:=by omega
    have y5:0<y+D:=by omega
    obtain⟨q,hq⟩:∃q,(x+A) / (y+C)=q:=⟨_,rfl⟩;obtain⟨p,hp⟩:∃p,(x+B) / (y+D)=p:=⟨_,rfl⟩;obtain⟨q5,q6,-⟩:=Cub.quo_facts x1 y1 h1 hq.symm
    have q7:q≤1000000001000000000:=by
     have:=Int.ediv_le_self (y+C) x1
     omega
    obtain⟨p5,p6,-⟩:=Cub.quo_facts x2 y2 h2 hp.symm
    have p7:p≤1000000001000000000:=by
     have:=Int.ediv_le_self (y+D) x2
     omega
    clear q6 p6
    by_cases hqp:q=p
    ·subst hqp
     have HQ:Hid (q=(x+A) / (y+C)∧q=(x+B) / (y+D)):=⟨hq.symm,hp.symm⟩;obtain⟨n1,n2,-⟩:=un HLS x y A B C D q (un HL) h1 h2 (un HQ).1 (un HQ).2;have HN1:=zAb n1;obtain⟨⟨t1,t2⟩,⟨t3,t4⟩,t5,t6⟩:=(un HL).products (un HN1) q5;obtain⟨-,-,-,-,-,-,⟨z1,z2⟩,⟨z3,z4⟩,-,z5,-,-⟩:=(un HN1).bounds;have HS':=zAb ((un HS).set C D (A - q*C) (B - q*D));have fq:=(un HS).fr;clear h1 h2 HE HL n1 HLS
     go_wp2_with fail
     exact⟨⟨y,x - q*y,C,D,A - q*C,B - q*D,rfl,rfl,HN1,HS'⟩,by simp only[intOf];omega⟩
    ·have e3:(q != p)=true:=by rw[bne_iff_ne];exact hqp
     clear h1 h2 hqp
     go_wp2_with fail
     exact bodyPost_ret (v:=.agg #[I A,I B,I C,I D]) (by simp[results,Tryz.results208,go_sem,r0,r1,r2,r3]) rfl ⟨A,B,C,D,rfl,(un HE).1,((((un HE).2.setCell (by simp;omega) _).setCell (by simp;omega) _).setCell (by simp;omega) _).setCell (by simp;omega) _⟩
def DivOK (k:Nat):Prop:=∀(W:World) (x y:Value) (m n:Nat),zAf W x m→zAf W y n→m<1000000000 ^ k→0<n→
 Calls Tryz.prog 149 #[x,y] W fun e w'=>∃a1 n1 c1 a2 n2 c2,e=.returned (.tuple #[.agg #[.slice a1 n1 c1],.agg #[.slice a2 n2 c2]])∧zAf w' (.agg #[.slice a1 n1 c1]) (m / n)∧zAf w' (.agg #[.slice a2 n2 c2]) (m % n)∧Bw W w'
structure GSt (w W:World) (u v:Value) (M N:Nat):Prop where
 c1:W.cell? ⟨w.heap.size,0,none⟩=some u
 f1:W.frozen? ⟨w.heap.size,0,none⟩=false
 c2:W.cell? ⟨w.heap.size+1,0,none⟩=some v
 f2:W.frozen? ⟨w.heap.size+1,0,none⟩=false
 c3:W.cell? ⟨w.heap.size+1+1,0,none⟩=some (.slice none 0 0)
 f3:W.frozen? ⟨w.heap.size+1+1,0,none⟩=false
 big1:zAf W (.agg #[u]) M
 big2:zAf W (.agg #[v]) N
 below:Below w.heap.size w W
theorem GSt.later {w W V:World} {u v:Value} {M N:Nat} (s:GSt w W u v M N) (hb:Below W.heap.size W V):GSt w V u v M N :=
 ⟨(hb.cell (p:=⟨w.heap.size,0,none⟩) (World.block_lt_of_cell? _ _ s.c1)).trans s.c1,(hb.frozen (p:=⟨w.heap.size,0,none⟩) (World.block_lt_of_cell? _ _ s.c1)).trans s.f1,
  (hb.cell (p:=⟨w.heap.size+1,0,none⟩) (World.block_lt_of_cell? _ _ s.c2)).trans s.c2,(hb.frozen (p:=⟨w.heap.size+1,0,none⟩) (World.block_lt_of_cell? _ _ s.c2)).trans s.f2,
  (hb.cell (p:=⟨w.heap.size+1+1,0,none⟩) (World.block_lt_of_cell? _ _ s.c3)).trans s.c3,(hb.frozen (p:=⟨w.heap.size+1+1,0,none⟩) (World.block_lt_of_cell? _ _ s.c3)).trans s.f3,
  s.big1.later hb,s.big2.later hb,s.below.trans (hb.mono s.below.size)⟩
theorem GSt.set1 {w W:World} {u v:Value} {M N:Nat} (s:GSt w W u v M N) (a:Option Addr) (l c:Nat) (hu:∀k n,u≠.int k n) {M':Nat} (h:zAf W (.agg #[.slice a l c]) M'):GSt w (W.setCell ⟨w.heap.size,0,none⟩ (.slice a l c)) (.slice a l c) v M' N :=
 ⟨World.cell?_setCell_same _ _ _ s.c1,by rw[World.frozen?_setCell];exact s.f1,by rw[World.cell?_setCell_other _ _ _ _ (by simp)];exact s.c2,by rw[World.frozen?_setCell];exact s.f2,
  by rw[World.cell?_setCell_other _ _ _ _ (by simp)];exact s.c3,by rw[World.frozen?_setCell];exact s.f3,h.box _ s.c1 hu,s.big2.box _ s.c1 hu,s.below.setCell (by simp) _⟩
theorem GSt.set2 {w W:World} {u v:Value} {M N:Nat} (s:GSt w W u v M N) (a:Option Addr) (l c:Nat) (hv:∀k n,v≠.int k n) {N':Nat} (h:zAf W (.agg #[.slice a l c]) N'):GSt w (W.setCell ⟨w.heap.size+1,0,none⟩ (.slice a l c)) u (.slice a l c) M N' :=
 ⟨by rw[World.cell?_setCell_other _ _ _ _ (by simp)];exact s.c1,by rw[World.frozen?_setCell];exact s.f1,World.cell?_setCell_same _ _ _ s.c2,by rw[World.frozen?_setCell];exact s.f2,
  by rw[World.cell?_setCell_other _ _ _ _ (by simp)];exact s.c3,by rw[World.frozen?_setCell];exact s.f3,s.big1.box _ s.c2 hv,h.box _ s.c2 hv,s.below.setCell (by simp) _⟩
theorem GSt.both {w W:World} {a1 a2 b1 b2:Option Addr} {l1 l2 k1 k2 d1 d2 e1 e2:Nat} {M N M' N':Nat} (s:GSt w W (.slice a1 l1 d1) (.slice a2 l2 d2) M N) (h1:zAf W (.agg #[.slice b1 k1 e1]) M') (h2:zAf W (.agg #[.slice b2 k2 e2]) N') :
 GSt w ((W.setCell ⟨w.heap.size,0,none⟩ (.slice b1 k1 e1)).setCell ⟨w.heap.size+1,0,none⟩ (.slice b2 k2 e2)) (.slice b1 k1 e1) (.slice b2 k2 e2) M' N' :=
 (s.set1 b1 k1 e1 (zBi _ _ _) h1).set2 b2 k2 e2 (zBi _ _ _) (h2.box _ s.c1 (zBi _ _ _))
theorem GSt.first {w w2:World} {u v:Value} {M N:Nat} (hb:Below (w.heap.size+3) (((w.alloc (.cells #[u] 80)).alloc (.cells #[v] 80)).alloc (.cells #[.slice none 0 0] 80)) w2) (h1:zAf w (.agg #[u]) M) (h2:zAf w (.agg #[v]) N):GSt w w2 u v M N:=by
 have h:=boxes3 hb;refine⟨h.c1,?_,h.c2,?_,h.c3,h.f3,h1.later h.below,h2.later h.below,h.below⟩
 ·rw[hb.frozen (p:=⟨w.heap.size,0,none⟩) (show w.heap.size<w.heap.size+3 by omega)];simp[go_sem]
 ·rw[hb.frozen (p:=⟨w.heap.size+1,0,none⟩) (show w.heap.size+1<w.heap.size+3 by omega)];simp[go_sem]
theorem len_two {W:World} {a:Option Addr} {l c N:Nat} (h:zAf W (.agg #[.slice a l c]) N):l≤9223372036854775807∧(l≤2→N<1000000000000000000)∧(2<l→1000000000000000000≤N):=by
 obtain⟨a',lp,cp,e,hlp,hr,hn,hv⟩:=h.form;simp only[Value.agg.injEq,Array.mk.injEq,List.cons.injEq,Value.slice.injEq,and_true]at e;obtain⟨rfl,rfl,rfl⟩:=e;refine⟨hlp,fun h2=>?_,fun h2=>?_⟩
 ·have:=Cub.lval_lt hn.1
  have h3:(1000000000:Nat) ^ lp.length≤1000000000 ^ 2:=Nat.pow_le_pow_right (by decide) h2
  omega
 ·have h3:=Cub.normal_ge hn (by intro e;rw[e]at h2;simp at h2)
  have h4:(1000000000:Nat) ^ 2≤1000000000 ^ (lp.length - 1):=Nat.pow_le_pow_right (by decide) (by omega)
  omega
structure GInv (m n k M N:Nat):Prop where
 gcd:Nat.gcd M N=Nat.gcd m n
 le:N≤M
 lt:M<1000000000 ^ k
theorem gcd_any (x y:Value) (m n k:Nat) (w:World) (hx:zAf w x m) (hy:zAf w y n) (hk:k≤100000) (hm:m<1000000000 ^ k) (hn:n<1000000000 ^ k) (hD:DivOK k) :
 Calls Tryz.prog 148 #[x,y] w fun e w'=>∃a l c,e=.returned (.agg #[.slice a l c])∧zAf w' (.agg #[.slice a l c]) (Nat.gcd m n)∧Bw w w':=by
 have HX:=zAb hx;have HY:=zAb hy;obtain⟨ap,np,cp,rfl⟩:=hx.shape;obtain⟨aq,nq,cq,rfl⟩:=hy.shape;have HDV:=zAb hD;have HKK:=zAb hk
 have HC:Hid (∃c:Int,((c<0↔m<n))∧∀W,zAf W (.agg #[.slice ap np cp]) m→zAf W (.agg #[.slice aq nq cq]) n→Calls Tryz.prog 207 #[.agg #[.slice ap np cp],.agg #[.slice aq nq cq]] W fun e w'=>e=.returned (I c)∧Bw W w'):=by
  refine⟨Cub.cmpN m n,?_,fun W hx hy=>cmp_any _ _ m n W hx hy⟩;unfold Cub.cmpN
  split
  ·simp_all
  ·split<;>simp_all
 obtain⟨c,hc,h50⟩:=un HC;have HCC:=zAb hc;have H50:=zAb h50;clear HC h50 hc
 have HI:Hid (if m<n then GInv m n k n m else GInv m n k m n):=by
  show ite _ _ _
  split
  ·exact⟨Nat.gcd_comm n m,by omega,hn⟩
  ·exact⟨rfl,by omega,hm⟩
 clear hx hy hm hn hD hk
 have HEND:Hid (∀M N:Nat,GInv m n k M N→N<1000000000000000000→0<N→Nat.gcd N (M % N)=Nat.gcd m n∧M % N<1000000000000000000∧Nat.gcd N (M % N)<18446744073709551616):=fun M N h h1 h0=>by
  have h2:M % N<N:=Nat.mod_lt _ h0;have h3:Nat.gcd N (M % N)≤N:=Nat.gcd_le_left _ h0;refine⟨?_,by omega,by omega⟩;rw[←h.gcd,Nat.gcd_comm M N,Nat.gcd_rec N M,Nat.gcd_comm]
 go_enter Tryz.func148,Tryz.ntmps148
 by_cases hlt:c<0
 case' pos=>
  have HI2:Hid (GInv m n k n m):=by have:=un HI;rw[if_pos ((un HCC).1 hlt)]at this;exact this
  clear HI HCC
  go_upto_region 2 with (go_at_call 207;go_must(refine(un H50 _ ((un HX).later ((bA.alloc (by simp) _).alloc (by simp;omega) _)) ((un HY).later ((bA.alloc (by simp) _).alloc (by simp;omega) _))).mono ?_;rintro e w2 ⟨rfl,hb2⟩;have HG2:=zAb (GSt.first (hb2.mono (by simp)) (un HX) (un HY));clear hb2))
  have b1:=(un HG2).c1;have b2:=(un HG2).c2;have g1:=(un HG2).f1;have g2:=(un HG2).f2
  go_wp2_with fail
  obtain⟨V,a1,l1,d1,a2,l2,d2,M,N,hV,HS,HJ⟩:∃V a1 l1 d1 a2 l2 d2 M N,V=((w2.setCell ⟨w.heap.size,0,none⟩ (.slice aq nq cq)).setCell ⟨w.heap.size+1,0,none⟩ (.slice ap np cp))∧Hid (GSt w V (.slice a1 l1 d1) (.slice a2 l2 d2) M N)∧Hid (GInv m n k M N) :=
   ⟨_,aq,nq,cq,ap,np,cp,n,m,rfl,(un HG2).both (un HG2).big2 (un HG2).big1,HI2⟩
  rw[←hV];clear hV b1 b2 g1 g2 HG2 HI2 H50 HX HY
 case' neg=>
  have HI2:Hid (GInv m n k m n):=by have:=un HI;rw[if_neg (fun h=>hlt ((un HCC).2 h))]at this;exact this
  clear HI HCC
  go_wp2_with (go_at_call 207;go_must(refine(un H50 _ ((un HX).later ((bA.alloc (by simp) _).alloc (by simp;omega) _)) ((un HY).later ((bA.alloc (by simp) _).alloc (by simp;omega) _))).mono ?_;rintro e w2 ⟨rfl,hb2⟩;have HG2:=zAb (GSt.first (hb2.mono (by simp)) (un HX) (un HY));clear hb2))
  obtain⟨V,a1,l1,d1,a2,l2,d2,M,N,hV,HS,HJ⟩:∃V a1 l1 d1 a2 l2 d2 M N,V=w2∧Hid (GSt w V (.slice a1 l1 d1) (.slice a2 l2 d2) M N)∧Hid (GInv m n k M N) :=
   ⟨_,ap,np,cp,aq,nq,cq,m,n,rfl,un HG2,HI2⟩
  rw[←hV];clear hV HG2 HI2 H50 HX HY
 all_goals (
  go_loopg [16] N (fun z _ wr=>∃(a1:Option Addr) (l1 d1:Nat) (a2:Option Addr) (l2 d2 M N:Nat),Hid (z=N)∧Hid (GSt w wr (.slice a1 l1 d1) (.slice a2 l2 d2) M N)∧Hid (GInv m n k M N))
  case atStart=>exact⟨a1,l1,d1,a2,l2,d2,M,N,rfl,HS,HJ⟩
  case round=>
   clear HS HJ a1 l1 d1 a2 l2 d2 M;obtain⟨a1,l1,d1,a2,l2,d2,M,N,HZ,HS,HJ⟩:=hrel;obtain⟨hl2,hN1,hN2⟩:=len_two (un HS).big2;have b1:=(un HS).c1;have b2:=(un HS).c2;have g1:=(un HS).f1;have g2:=(un HS).f2
   by_cases h2:2<l2
   ·have hN:=hN2 h2
    have H88:=zAb (fun W hx hy=>many_any (.agg #[.slice a1 l1 d1]) (.agg #[.slice a2 l2 d2]) M N k W hx hy (un HJ).le hN (un HKK) (un HJ).lt)
    go_upto_region 5 with (go_at_call 208;go_must(refine(un H88 wr (un HS).big1 (un HS).big2).mono ?_;rintro e w3 ⟨A,B,C,D,rfl,HGO,hb3⟩;have HS3:=zAb ((un HS).later hb3);clear hb3))
    obtain⟨W,hW⟩:∃W,W=w3.alloc (.cells #[I A,I B,I C,I D] 227):=⟨_,rfl⟩;have HS4:Hid (GSt w W (.slice a1 l1 d1) (.slice a2 l2 d2) M N):=by rw[hW];exact(un HS3).later bA
    have q0:W.cell? ⟨w3.heap.size,0,none⟩=some (I A):=by rw[hW];simp[go_sem]
    have q1:W.cell? ⟨w3.heap.size,1,none⟩=some (I B):=by rw[hW];simp[go_sem]
    have q2:W.cell? ⟨w3.heap.size,2,none⟩=some (I C):=by rw[hW];simp[go_sem]
    have q3:W.cell? ⟨w3.heap.size,3,none⟩=some (I D):=by rw[hW];simp[go_sem]
    rw[←hW];clear hW HS3 HS b1 b2 g1 g2 H88;have b1:=(un HS4).c1;have b2:=(un HS4).c2
    by_cases hB:B=0
    ·have e:(B != 0)=false:=by rw[hB];rfl
     have hN0:0<N:=by have:=hN2 h2;omega
     have H57:=zAb (fun W x y (hx:zAf W x M) (hy:zAf W y N)=>un HDV W x y M N hx hy (un HJ).lt hN0);have HLT:Hid (M % N<N):=Nat.mod_lt _ hN0;have HJ':Hid (GInv m n k N (M % N)):=⟨by rw[←(un HJ).gcd,Nat.gcd_comm M N,Nat.gcd_rec N M,Nat.gcd_comm],by have:=un HLT;omega,Nat.lt_of_le_of_lt (un HJ).le (un HJ).lt⟩;generalize M / N=Q at *
     generalize M % N=R at *
     clear hB hN1 hN2 h2 hN0 HGO HJ q0 q2 q3 HDV HEND
     go_upto_region 8 with (go_at_call 149;go_must(refine(un H57 W _ _ (un HS4).big1 (un HS4).big2).mono ?_;rintro e w5 ⟨x1,x2,x3,y1,y2,y3,rfl,r1,r2,hb5⟩;have HS5:=zAb ((un HS4).later hb5);have HR:=zAb r2;clear r1 r2 hb5))
     have hA:Below w5.heap.size w5 ((w5.alloc (.cells #[.slice x1 x2 x3] 80)).alloc (.cells #[.slice y1 y2 y3] 80)):=bA.alloc (by simp) _;have HZ5:=(un HS5).c3;have HS6:=zAb ((un HS5).later hA);have HR6:=zAb ((un HR).later hA);have cr:((w5.alloc (.cells #[.slice x1 x2 x3] 80)).alloc (.cells #[.slice y1 y2 y3] 80)).cell? ⟨w5.heap.size+1,0,none⟩=some (.slice y1 y2 y3):=by simp
     generalize hwA:(w5.alloc (.cells #[.slice x1 x2 x3] 80)).alloc (.cells #[.slice y1 y2 y3] 80)=wA at *
     clear hwA hA HS5 HR HS4 b1 b2;have v1:=(un HS6).c1;have v2:=(un HS6).c2;have g1:=(un HS6).f1;have g2:=(un HS6).f2;have hz:w.heap.size+1+1<w5.heap.size:=World.block_lt_of_cell? _ _ HZ5;have n1:¬w5.heap.size+1=w.heap.size:=by omega
     have n2:¬w.heap.size=w5.heap.size+1:=by omega
     have n3:¬w5.heap.size+1=w.heap.size+1:=by omega
     have n4:¬w.heap.size+1=w5.heap.size+1:=by omega
     go_region
     all_goals (
      go_wp2_with fail
      go_roundg R
      case measure=>have:=un HZ;have:=un HLT;omega
      case rel=>exact⟨a2,l2,d2,y1,y2,y3,N,R,rfl,by first|exact((un HS6).both (un HS6).big2 (un HR6)).later ((Below.refl _ _).drew)|exact((un HS6).both' (un HS6).big2 (un HR6)).later ((Below.refl _ _).drew)|exact(((un HS6).later ((Below.refl _ _).drew)).both ((un HS6).big2.later ((Below.refl _ _).drew)) ((un HR6).later ((Below.refl _ _).drew))),HJ'⟩)
    ·have e:(B != 0)=true:=by rw[bne_iff_ne];exact hB
     obtain⟨k1,k2,k3,k4,s1,s2,hN⟩:=un HGO;obtain⟨M',N',hM',hN',hle,hle2,hlt2,hg⟩:=hN hB;have H89:=zAb (fun W hx hy=>use_any (.agg #[.slice a1 l1 d1]) (.agg #[.slice a2 l2 d2]) M N M' N' k A B C D W hx hy (un HJ).le (by have:=un HKK;omega) (un HJ).lt k1 k2 k3 k4 s1 s2 hM' (Nat.le_trans hle (un HJ).le) hN' (Nat.le_trans hle2 (Nat.le_trans hle (un HJ).le)));have HJ':Hid (GInv m n k M' N'):=⟨hg.trans (un HJ).gcd,hle2,Nat.lt_of_le_of_lt (Nat.le_trans hle (un HJ).le) (un HJ).lt⟩;have HLT:=zAb hlt2;clear hN1 hN2 hB k1 k2 k3 k4 s1 s2 hN hM' hN' hle hle2 hlt2 hg HGO HJ
     go_wp2_with (go_at_call 209;go_must(refine(un H89 W (un HS4).big1 (un HS4).big2).mono ?_;rintro e w5 ⟨x1,x2,x3,y1,y2,y3,rfl,r1,r2,hb5⟩;have HS5:=zAb ((un HS4).later hb5);have HR:=zAb (And.intro r1 r2);clear r1 r2 hb5;have v1:=(un HS5).c1;have v2:=(un HS5).c2;have g1:=(un HS5).f1;have g2:=(un HS5).f2))
     go_roundg N'
     case measure=>have:=un HZ;have:=un HLT;omega
     case rel=>exact⟨x1,x2,x3,y1,y2,y3,M',N',rfl,(un HS5).both (un HR).1 (un HR).2,HJ'⟩
   ·have hN:=hN1 (by omega)
    have h2':l2≤2:=by omega
    clear hN1 hN2 h2;have H56:=zAb (fun W h=>zCk (.agg #[.slice a2 l2 d2]) N W h)
    by_cases h0:N=0
    ·have HV:Hid (Nat.gcd m n=M):=by show _=_;rw[←(un HJ).gcd,h0,Nat.gcd_zero_right]
     have e0:(N == 0)=true:=by rw[h0];rfl
     rw[e0]at H56;clear h0 e0 hN
     go_wp2_with (go_at_call 153;go_must(refine(un H56 wr (un HS).big2).mono ?_;rintro e w5 ⟨rfl,hb5⟩;have HS5:=zAb ((un HS).later hb5);clear hb5;have v1:=(un HS5).c1;have v3:=(un HS5).c3;have g3:=(un HS5).f3))
     refine bodyPost_ret (v:=.agg #[.slice a1 l1 d1]) (by simp[results,Tryz.results148,go_sem,v3]) rfl ⟨_,_,_,rfl,?_,?_⟩
     ·rw[un HV];exact(un HS5).big1.box _ v3 (zBi _ _ _)
     ·exact(un HS5).below.setCell (by simp;omega) _
    ·have e0:(N == 0)=false:=by rw[beq_eq_false_iff_ne];exact h0
     rw[e0]at H56;have H57:=zAb (fun W x y (hx:zAf W x M) (hy:zAf W y N)=>un HDV W x y M N hx hy (un HJ).lt (by omega));obtain⟨z1,z2,z3⟩:=un HEND M N (un HJ) hN (by omega);have HV:=zAb z1;have H91a:=zAb (fun W x (hx:zAf W x N)=>bigSmall_any x N W hx hN);have H91b:=zAb (fun W x (hx:zAf W x (M % N))=>bigSmall_any x (M % N) W hx z2);have H90:=zAb (fun W=>gcdSmall_any N (M % N) W (by omega) (by omega));have H68:=zAb (fun W=>zFa (Nat.gcd N (M % N)) W z3);generalize M / N=Q at *
     generalize M % N=R at *
     generalize Nat.gcd N R=G at *
     clear h0 e0 hN z1 z2 z3 HDV HEND
     go_upto_region 12 with (first
      | (go_at_call 153;go_must(refine(un H56 wr (un HS).big2).mono ?_;rintro e w5 ⟨rfl,hb5⟩;have HS5:=zAb ((un HS).later hb5);clear hb5;have v1:=(un HS5).c1;have v2:=(un HS5).c2))
      | (go_at_call 149;go_must(refine(un H57 w5 _ _ (un HS5).big1 (un HS5).big2).mono ?_;rintro e w6 ⟨x1,x2,x3,y1,y2,y3,rfl,r1,r2,hb6⟩;have HS6:=zAb ((un HS5).later hb6);have HR:=zAb r2;clear r1 r2 hb6)))
     have hA:Below w6.heap.size w6 ((w6.alloc (.cells #[.slice x1 x2 x3] 80)).alloc (.cells #[.slice y1 y2 y3] 80)):=bA.alloc (by simp) _;have hz6:w.heap.size+1+1<w6.heap.size:=World.block_lt_of_cell? _ _ (un HS6).c3;have HS7:=zAb ((un HS6).later hA);have HR7:=zAb ((un HR).later hA);have cr:((w6.alloc (.cells #[.slice x1 x2 x3] 80)).alloc (.cells #[.slice y1 y2 y3] 80)).cell? ⟨w6.heap.size+1,0,none⟩=some (.slice y1 y2 y3):=by simp
     generalize hwA:(w6.alloc (.cells #[.slice x1 x2 x3] 80)).alloc (.cells #[.slice y1 y2 y3] 80)=wA at *
     clear hwA hA HS6 HR HS5 v1 v2 b1 b2 g1 g2 H56 H57;have v2:=(un HS7).c2;have n1:¬w6.heap.size+1=w.heap.size+1+1:=by omega
     have n2:¬w.heap.size+1+1=w6.heap.size+1:=by omega
     go_region_held3 (fun w'=>w'.cell? ⟨w.heap.size+1,0,none⟩=some (.slice a2 l2 d2)∧w'.cell? ⟨w6.heap.size+1,0,none⟩=some (.slice y1 y2 y3)) (first|assumption|(refine⟨?_,?_⟩<;>first|assumption|(simp[go_sem, *];done))|(simp[go_sem, *];done))
      (first
       | (go_at_call_of 212 (Value.agg #[Value.slice a2 l2 d2]);refine(un H91a _ _ ((un HS7).big2.later ((Below.refl _ _).drew))).mono ?_;rintro e wB ⟨rfl,hbB⟩;have hbB':Below wA.heap.size wA wB:=(Below.refl _ _).drew.trans hbB;have HS8:=zAb ((un HS7).later hbB');have HR8:=zAb ((un HR7).later hbB');have crB:=(hbB'.cell (p:=⟨w6.heap.size+1,0,none⟩) (World.block_lt_of_cell? _ _ cr)).trans cr;have v8:=(un HS8).c2;clear hbB hbB')
       | (go_at_call_of 212 (Value.agg #[Value.slice y1 y2 y3]);refine(un H91b wB _ (un HR8)).mono ?_;rintro e wC ⟨rfl,hbC⟩;have HS9:=zAb ((un HS8).later hbC);have crC:=(hbC.cell (p:=⟨w6.heap.size+1,0,none⟩) (World.block_lt_of_cell? _ _ crB)).trans crB;have v9:=(un HS9).c2;clear hbC)
       | (go_at_call 211;refine(un H90 wC).mono ?_;rintro e wD ⟨rfl,hbD⟩;have HS10:=zAb ((un HS9).later hbD);have crD:=(hbD.cell (p:=⟨w6.heap.size+1,0,none⟩) (World.block_lt_of_cell? _ _ crC)).trans crC;have v10:=(un HS10).c2;clear hbD)
       | (go_at_call 210;refine(un H68 wD).mono ?_;rintro e wE ⟨i1,i2,i3,rfl,hE,hbE⟩;have HS11:=zAb ((un HS10).later hbE);have HGE:=zAb hE;have crE:=(hbE.cell (p:=⟨w6.heap.size+1,0,none⟩) (World.block_lt_of_cell? _ _ crD)).trans crD;have v11:=(un HS11).c2;have v3:=(un HS11).c3;have g3:=(un HS11).f3;clear hbE hE))
     all_goals (
      go_wp2_with fail
      refine bodyPost_ret (v:=.agg #[.slice i1 i2 i3]) (by simp[results,Tryz.results148,go_sem,v3]) rfl ⟨_,_,_,rfl,?_,?_⟩
      ·rw[←un HV];exact(un HGE).box _ v3 (zBi _ _ _)
      ·exact(un HS11).below.setCell (by simp;omega) _))
def LongOK (m n:Nat):Prop:=∀(W:World) (x y:Value),zAf W x m→zAf W y n→
  Calls Tryz.prog 214 #[x,y] W fun e w'=>∃a1 n1 c1 a2 n2 c2,e=.returned (.tuple #[.agg #[.slice a1 n1 c1],.agg #[.slice a2 n2 c2]])∧zAf w' (.agg #[.slice a1 n1 c1]) (m / n)∧zAf w' (.agg #[.slice a2 n2 c2]) (m % n)∧Bw W w'
structure Res4 (w w4:World) (a b:Value):Prop where
  c0:w4.cell? ⟨w.heap.size,0,none⟩=some a
  c1:w4.cell? ⟨w.heap.size+1,0,none⟩=some b
  c2:w4.cell? ⟨w.heap.size+1+1,0,none⟩=some (.slice none 0 0)
  f2:w4.frozen? ⟨w.heap.size+1+1,0,none⟩=false
  c3:w4.cell? ⟨w.heap.size+1+1+1,0,none⟩=some (.slice none 0 0)
  f3:w4.frozen? ⟨w.heap.size+1+1+1,0,none⟩=false
  below:Below w.heap.size w w4
  size:w.heap.size+4≤w4.heap.size
theorem res4 {w w4:World} {a b:Value} (hb:Below (w.heap.size+4) ((((w.alloc (.cells #[a] 80)).alloc (.cells #[b] 80)).alloc (.cells #[.slice none 0 0] 80)).alloc (.cells #[.slice none 0 0] 80)) w4):Res4 w w4 a b:=by
  refine⟨?_,?_,?_,?_,?_,?_,?_,?_⟩
  · rw[hb.cell (p:=⟨w.heap.size,0,none⟩) (show w.heap.size<w.heap.size+4 by omega)];simp[go_sem]
  · rw[hb.cell (p:=⟨w.heap.size+1,0,none⟩) (show w.heap.size+1<w.heap.size+4 by omega)];simp[go_sem]
  · rw[hb.cell (p:=⟨w.heap.size+1+1,0,none⟩) (show w.heap.size+1+1<w.heap.size+4 by omega)];simp[go_sem]
  · rw[hb.frozen (p:=⟨w.heap.size+1+1,0,none⟩) (show w.heap.size+1+1<w.heap.size+4 by omega)];simp[go_sem]
  · rw[hb.cell (p:=⟨w.heap.size+1+1+1,0,none⟩) (show w.heap.size+1+1+1<w.heap.size+4 by omega)];simp[go_sem]
  · rw[hb.frozen (p:=⟨w.heap.size+1+1+1,0,none⟩) (show w.heap.size+1+1+1<w.heap.size+4 by omega)];simp[go_sem]
  · exact(((((Below.refl _ _).alloc (Nat.le_refl _) _).alloc (by simp) _).alloc (by simp;omega) _).alloc (by simp;omega) _).trans (hb.mono (by omega))
  · have:=hb.size;simp at this;omega
theorem Res4.on {w w4 w5:World} {a b:Value} (h:Res4 w w4 a b) (hb:Below (w.heap.size+4) w4 w5):Res4 w w5 a b :=
  ⟨(hb.cell (p:=⟨w.heap.size,0,none⟩) (show w.heap.size<w.heap.size+4 by omega)).trans h.c0,(hb.cell (p:=⟨w.heap.size+1,0,none⟩) (show w.heap.size+1<w.heap.size+4 by omega)).trans h.c1,
    (hb.cell (p:=⟨w.heap.size+1+1,0,none⟩) (show w.heap.size+1+1<w.heap.size+4 by omega)).trans h.c2,(hb.frozen (p:=⟨w.heap.size+1+1,0,none⟩) (show w.heap.size+1+1<w.heap.size+4 by omega)).trans h.f2,
    (hb.cell (p:=⟨w.heap.size+1+1+1,0,none⟩) (show w.heap.size+1+1+1<w.heap.size+4 by omega)).trans h.c3,(hb.frozen (p:=⟨w.heap.size+1+1+1,0,none⟩) (show w.heap.size+1+1+1<w.heap.size+4 by omega)).trans h.f3,
    h.below.trans (hb.mono (by omega)),by have:=hb.size;have:=h.size;omega⟩
theorem Res4.done {w w4:World} {a b u v:Value} (h:Res4 w w4 a b) (n m:Nat) (hn:zAf w4 (.agg #[u]) n) (hm:zAf w4 (.agg #[v]) m) :
    zAf ((w4.setCell ⟨w.heap.size+1+1,0,none⟩ u).setCell ⟨w.heap.size+1+1+1,0,none⟩ v) (.agg #[u]) n∧zAf ((w4.setCell ⟨w.heap.size+1+1,0,none⟩ u).setCell ⟨w.heap.size+1+1+1,0,none⟩ v) (.agg #[v]) m∧Bw w ((w4.setCell ⟨w.heap.size+1+1,0,none⟩ u).setCell ⟨w.heap.size+1+1+1,0,none⟩ v):=by
  have hc:(w4.setCell ⟨w.heap.size+1+1,0,none⟩ u).cell? ⟨w.heap.size+1+1+1,0,none⟩=some (.slice none 0 0):=by
    rw[World.cell?_setCell_other _ _ _ _ (by simp)];exact h.c3
  exact⟨(hn.box _ h.c2 (zBi _ _ _)).box _ hc (zBi _ _ _),(hm.box _ h.c2 (zBi _ _ _)).box _ hc (zBi _ _ _),(h.below.setCell (by simp;omega) _).setCell (by simp;omega) _⟩
theorem one_limb {l:List Nat} {n:Nat} (h:Cub.normal 1000000000 l) (hv:Cub.lval 1000000000 l=n) (h1:l.length=1):∃y,l=[y]∧y=n∧0<n∧n<1000000000:=by
  obtain⟨y,rfl⟩:=List.length_eq_one_iff.1 h1;have e:y=n:=by rw[←hv];simp[Cub.lval]
  subst e;refine⟨y,rfl,rfl,?_,h.1 y (by simp)⟩;have:=h.2;simp at this
  omega
theorem divMod_core (x y:Value) (m n k:Nat) (w:World) (hx:zAf w x m) (hy:zAf w y n) (hk:k≤1000000) (hm:m<1000000000 ^ k) (hn:0<n) (hL:1000000000≤n→n≤m→LongOK m n) :
    Calls Tryz.prog 149 #[x,y] w fun e w'=>∃a1 n1 c1 a2 n2 c2,e=.returned (.tuple #[.agg #[.slice a1 n1 c1],.agg #[.slice a2 n2 c2]])∧zAf w' (.agg #[.slice a1 n1 c1]) (m / n)∧zAf w' (.agg #[.slice a2 n2 c2]) (m % n)∧Bw w w':=by
  have HX:=zAb hx;have HY:=zAb hy;obtain⟨ap,lp,cp,rfl,hlp,hrp,hnp,hvp⟩:=hx.form;obtain⟨aq,lq,cq,rfl,hlq,hrq,hnq,hvq⟩:=hy.form;have H50:=zAb (fun W hx hy=>cmp_any (.agg #[.slice ap lp.length cp]) (.agg #[.slice aq lq.length cq]) m n W hx hy);have h1:lp.length≤k:=Cub.len_le hnp (by rw[hvp];exact hm);have HP:Hid (Cells w aq lq):=hrq.cells.2.2.2;have HM:=zAb hm
  by_cases hlt:m<n
  · have e1:m / n=0:=Nat.div_eq_of_lt hlt
    have e2:m % n=m:=Nat.mod_eq_of_lt hlt;rw[e1,e2];rw[Cub.cmpN_lt hlt]at H50;generalize lp.length=np at *
    generalize lq.length=nq at *
    clear hx hy hm hlp hlq hrp hrq hnp hnq hvp hvq e1 e2 hL h1 HP;go_enter Tryz.func149,Tryz.ntmps149
    go_upto_region 2 with (go_at_call 207;go_must(refine(un H50 _ ((un HX).later (((((Below.refl _ _).alloc (Nat.le_refl _) _).alloc (by simp) _).alloc (by simp;omega) _).alloc (by simp;omega) _)) ((un HY).later (((((Below.refl _ _).alloc (Nat.le_refl _) _).alloc (by simp) _).alloc (by simp;omega) _).alloc (by simp;omega) _))).mono ?_;rintro e w2 ⟨rfl,hb2⟩;have HB2:=zAb (res4 (hb2.mono (by simp)));have b0:=(un HB2).c0;have b2:=(un HB2).c2;have f2:=(un HB2).f2;have b3:=(un HB2).c3;have f3:=(un HB2).f3;clear hb2))
    go_region
    all_goals (
      obtain⟨r1,r2,r3⟩:=(un HB2).done (u:=.slice none 0 0) (v:=.slice ap np cp) 0 m (zAf.zero _) ((un HX).later (un HB2).below)
      go_wp2
      exact bodyPost_ret (v:=.tuple #[.agg #[.slice none 0 0],.agg #[.slice ap np cp]]) (by simp[results,Tryz.results149,go_sem,b2,b3]) rfl ⟨_,_,_,_,_,_,rfl,r1.later ((Below.refl _ _).drew),r2.later ((Below.refl _ _).drew),r3.trans ((Below.refl _ _).drew)⟩)
  · have H50':Hid (∃c:Int,(c<0)=False∧∀W,zAf W (.agg #[.slice ap lp.length cp]) m→zAf W (.agg #[.slice aq lq.length cq]) n→Calls Tryz.prog 207 #[.agg #[.slice ap lp.length cp],.agg #[.slice aq lq.length cq]] W fun e w'=>e=.returned (I c)∧Bw W w'):=by
      refine⟨Cub.cmpN m n,?_,un H50⟩;unfold Cub.cmpN;rw[if_neg hlt]
      split<;>simp
    obtain⟨c,hc,h50⟩:=un H50';have H50c:=zAb h50;clear h50 H50 H50'
    by_cases hone:lq.length=1
    · obtain⟨yv,hl,hyn,hn0,hnB⟩:=one_limb hnq hvq hone
      have HC1:Hid (∀W,Below w.heap.size w W→∃b o,aq=some ⟨b,o,none⟩∧W.cell? ⟨b,o,none⟩=some (.int .u64 (n:Int))):=fun W hW=>by
        obtain⟨b,o,e,hcell⟩:=un HP W hW 0 (by omega);refine⟨b,o,e,?_⟩;rw[Nat.add_zero]at hcell;rw[hcell];subst hl;rw[←hyn];rfl
      have H82:=zAb (fun W x (hx:zAf W x m)=>divShort_any x m n k W hx hk (un HM) hn0 hnB);rw[hone]at HY H50c ⊢;generalize lp.length=np at *
      clear hx hy hm hlp hlq hrp hrq hnp hnq hvp hvq hL h1 HP hl hyn hone;go_enter Tryz.func149,Tryz.ntmps149
      go_upto_region 4 with (go_at_call 207;go_must(refine(un H50c _ ((un HX).later (((((Below.refl _ _).alloc (Nat.le_refl _) _).alloc (by simp) _).alloc (by simp;omega) _).alloc (by simp;omega) _)) ((un HY).later (((((Below.refl _ _).alloc (Nat.le_refl _) _).alloc (by simp) _).alloc (by simp;omega) _).alloc (by simp;omega) _))).mono ?_;rintro e w2 ⟨rfl,hb2⟩;have HB2:=zAb (res4 (hb2.mono (by simp)));have b0:=(un HB2).c0;have b1:=(un HB2).c1;clear hb2))
      obtain⟨bq,oq,rfl,hcq⟩:=un HC1 w2 (un HB2).below
      go_region_with (go_at_call 213;refine(un H82 _ _ (((un HX).later (un HB2).below).later ((Below.refl _ _).drew))).mono ?_;rintro e w3 ⟨a1,n1,c1,a2,n2,c2,rfl,hr1,hr2,hb3⟩;have hb3':Below w2.heap.size w2 w3:=(Below.refl _ _).drew.trans hb3;have HB3:=zAb ((un HB2).on (hb3'.mono (un HB2).size));have HR:=zAb (And.intro hr1 hr2);clear hr1 hr2 hb3 hb3';have b2:=(un HB3).c2;have f2:=(un HB3).f2;have b3:=(un HB3).c3;have f3:=(un HB3).f3)
      all_goals (
        obtain⟨r1,r2,r3⟩:=(un HB3).done _ _ (un HR).1 (un HR).2
        go_wp2
        exact bodyPost_ret (v:=.tuple #[.agg #[.slice a1 n1 c1],.agg #[.slice a2 n2 c2]]) (by simp[results,Tryz.results149,go_sem,b2,b3]) rfl ⟨_,_,_,_,_,_,rfl,r1,r2,r3⟩)
    · have hnB:1000000000≤n:=by
        apply Decidable.byContradiction
        intro hc2;have h2:lq.length≤1:=Cub.len_le hnq (by rw[hvq,Nat.pow_one];omega);have h3:lq=[]:=List.length_eq_zero_iff.1 (by omega);rw[h3]at hvq;have:Cub.lval 1000000000 []=0:=rfl
        omega
      have H83:=zAb (hL hnB (by omega));have hone':((lq.length:Int) == 1)=false:=by rw[beq_eq_false_iff_ne];omega
      generalize lp.length=np at *
      generalize lq.length=nq at *
      clear hx hy hm hlp hrp hrq hnp hnq hvp hvq hL h1 HP hone;go_enter Tryz.func149,Tryz.ntmps149
      go_wp2_with (first
        | (go_at_call 207;go_must(refine(un H50c _ ((un HX).later (((((Below.refl _ _).alloc (Nat.le_refl _) _).alloc (by simp) _).alloc (by simp;omega) _).alloc (by simp;omega) _)) ((un HY).later (((((Below.refl _ _).alloc (Nat.le_refl _) _).alloc (by simp) _).alloc (by simp;omega) _).alloc (by simp;omega) _))).mono ?_;rintro e w2 ⟨rfl,hb2⟩;have HB2:=zAb (res4 (hb2.mono (by simp)));have b0:=(un HB2).c0;have b1:=(un HB2).c1;clear hb2))
        | (go_at_call 214;go_must(refine(un H83 _ _ _ ((un HX).later (un HB2).below) ((un HY).later (un HB2).below)).mono ?_;rintro e w3 ⟨a1,n1,c1,a2,n2,c2,rfl,hr1,hr2,hb3⟩;have HB3:=zAb ((un HB2).on (hb3.mono (un HB2).size));have HR:=zAb (And.intro hr1 hr2);clear hr1 hr2 hb3;have b2:=(un HB3).c2;have f2:=(un HB3).f2;have b3:=(un HB3).c3;have f3:=(un HB3).f3)))
      obtain⟨r1,r2,r3⟩:=(un HB3).done _ _ (un HR).1 (un HR).2;exact bodyPost_ret (v:=.tuple #[.agg #[.slice a1 n1 c1],.agg #[.slice a2 n2 c2]]) (by simp[results,Tryz.results149,go_sem,b2,b3]) rfl ⟨_,_,_,_,_,_,rfl,r1,r2,r3⟩
end Go.Proofs.YtliadckofhblnaaGreatDoor
namespace Cub
structure GuessInv (h w0 y1 y2 d r:Nat):Prop where
 lt:d<1000000000
 sum:r+d*y1=h
 few:∀q,q<1000000000→q*y1≤h→q*(y1*1000000000+y2)≤h*1000000000+w0→q≤d
theorem GuessInv.start (h w0 y1 y2:Nat) (hy:0<y1):GuessInv h w0 y1 y2 (min (h / y1) 999999999) (h - min (h / y1) 999999999*y1):=by
 have h1:min (h / y1) 999999999*y1≤h:=Nat.le_trans (Nat.mul_le_mul_right _ (Nat.min_le_left _ _)) (Nat.div_mul_le_self h y1);refine⟨by omega,by omega,fun q hq hqh _=>?_⟩;have h2:q≤h / y1:=(Nat.le_div_iff_mul_le hy).2 hqh
 omega
theorem GuessInv.step {h w0 y1 y2 d r:Nat} (i:GuessInv h w0 y1 y2 d r) (hgt:r*1000000000+w0<d*y2):1≤d∧GuessInv h w0 y1 y2 (d - 1) (r+y1):=by
 have hd:1≤d:=by
  rcases Nat.eq_zero_or_pos d with e|e
  ·subst e;omega
  ·exact e
 obtain⟨e,rfl⟩:∃e,d=e+1:=⟨d - 1,by omega⟩;have h1:=i.sum;have h2:=i.lt;refine⟨hd,by omega,?_,fun q hq hqh hqm=>?_⟩
 ·rw[Nat.add_sub_cancel]
  rw[Nat.add_mul,Nat.one_mul]at h1
  omega
 ·have h3:=i.few q hq hqh hqm
  rcases Nat.lt_or_ge e q with h4|h4
  ·have h5:q=e+1:=by omega
   subst h5;rw[Nat.mul_add,←Nat.mul_assoc]at hqm;have h6:=congrArg (·*1000000000) h1;simp only[Nat.add_mul (_:Nat) _ 1000000000]at h6
   omega
  ·omega
end Cub
namespace Go.Proofs.YtliadckofhblnaaGreatDoor
open Go.RowKit
theorem guess_min (h y d:Nat) (hB:h<1000000000000000000) (hd:d=min (h / y) 999999999) :
 (if 999999999<IntKind.u64.wrap ((h:Int) / (y:Int))then(999999999:Int)else IntKind.u64.wrap ((h:Int) / (y:Int)))=(d:Int):=by
 have h1:=Nat.div_le_self h y;have e:(h:Int) / (y:Int)=((h / y:Nat):Int):=(Int.natCast_ediv h y).symm;rw[e];generalize h / y=q at *
 have w1:IntKind.u64.wrap (q:Int)=(q:Int):=by rw[IntKind.wrap_u64];omega
 rw[w1,hd]
 split<;>omega
theorem guess_min' (h y d:Nat) (hB:h<1000000000000000000) (hd:d=min (h / y) 999999999) :
 min (IntKind.u64.wrap ((h:Int) / (y:Int))) 999999999=(d:Int):=by
 have h1:=guess_min h y d hB hd;rw[←h1]
 split<;>omega
theorem guess_any (gw ow n cw:Nat) (ab:Option Addr) (cb w0 w1 w2 y1 y2:Nat) (gb ob:Nat) (w:World) (hn:2≤n) (hn2:n≤10000000) (hcw:n+1≤cw)
 (hab:ab=some ⟨gb,ob,none⟩) (h2:w.cell? ⟨gw,ow+n,none⟩=some (.int .u64 (w2:Int))) (h1:w.cell? ⟨gw,ow+(n - 1),none⟩=some (.int .u64 (w1:Int))) (h0:w.cell? ⟨gw,ow+(n - 2),none⟩=some (.int .u64 (w0:Int)))
 (k1:w.cell? ⟨gb,ob+(n - 1),none⟩=some (.int .u64 (y1:Int))) (k2:w.cell? ⟨gb,ob+(n - 2),none⟩=some (.int .u64 (y2:Int)))
 (l0:w0<1000000000) (l1:w1<1000000000) (l2:w2<1000000000) (m1:y1<1000000000) (m2:y2<1000000000) (hy:0<y1) :
 Calls Tryz.prog 258 #[.slice (some ⟨gw,ow,none⟩) (n+1) cw,.slice ab n cb] w fun e w'=>∃d:Nat,e=.returned (.int .u64 (d:Int))∧d<1000000000∧(∀q,q<1000000000→q*y1≤w2*1000000000+w1→q*(y1*1000000000+y2)≤(w2*1000000000+w1)*1000000000+w0→q≤d)∧Bw w w':=by
 subst hab;obtain⟨p,rfl⟩:∃p,n=p+2:=⟨n - 2,by omega⟩;rw[show p+2 - 1=p+1 by omega]at h1 k1;rw[show p+2 - 2=p by omega]at h0 k2;obtain⟨h,hh⟩:∃h,h=w2*1000000000+w1:=⟨_,rfl⟩;have hB:h<1000000000000000000:=by omega
 have hhI:(w2:Int)*1000000000+(w1:Int)=(h:Int):=by omega
 have HG:=zAb (Cub.GuessInv.start h w0 y1 y2 hy);rw[←hh];have HHI:=zAb hhI;clear hh hhI;go_enter Tryz.func258,Tryz.ntmps258
 go_wp2
 have j1:(p:Int)+2<(p:Int)+2+1:=by omega
 have j2:(p:Int)+1<(p:Int)+2+1:=by omega
 have j3:(p:Int)<(p:Int)+2+1:=by omega
 have j4:(p:Int)+1<(p:Int)+2:=by omega
 have j5:(p:Int)<(p:Int)+2:=by omega
 go_quiet (fail)
 rw[un HHI];have hy0:¬y1=0:=by omega
 go_upto_region 4 with fail
 obtain⟨d0,hd0⟩:∃d0,d0=min (h / y1) 999999999:=⟨_,rfl⟩
 first|rw[guess_min h y1 d0 hB hd0]|rw[guess_min' h y1 d0 hB hd0]
 rw[←hd0]at HG;obtain⟨m0,hm0⟩:∃m0,m0=d0*y1:=⟨_,rfl⟩;have hmI:(d0:Int)*(y1:Int)=(m0:Int):=by rw[hm0];simp
 have hmh:m0≤h:=by have:=(un HG).sum;rw[←hm0]at this;omega
 rw[←hm0]at HG;clear hd0 hm0
 go_wp2
 go_loopw [7,8] (fun a b wr=>∃d r:Nat,a=.int .u64 (d:Int)∧b=.int .u64 (r:Int)∧r≤h∧Hid (Cub.GuessInv h w0 y1 y2 d r)∧Bw w wr) (fun a _ _=>(intOf a).toNat)
 case atStart=>exact⟨d0,h - m0,rfl,by go_num,by omega,HG,below_drewN (Below.refl _ _) _⟩
 case round=>
  obtain⟨d,r,rfl,rfl,hr,HI,hbl⟩:=hrel;have h0':=(hbl.cell (p:=⟨gw,ow+p,none⟩) (World.block_lt_of_cell? _ _ h0)).trans h0;have k1':=(hbl.cell (p:=⟨gb,ob+(p+1),none⟩) (World.block_lt_of_cell? _ _ k1)).trans k1;have k2':=(hbl.cell (p:=⟨gb,ob+p,none⟩) (World.block_lt_of_cell? _ _ k2)).trans k2;clear hmI hmh HG;have hdl:=(un HI).lt;obtain⟨dy,hdy⟩:∃dy,dy=d*y2:=⟨_,rfl⟩;have hdyI:(d:Int)*(y2:Int)=(dy:Int):=by rw[hdy];simp
  have hdyB:dy≤999999999*999999999:=by rw[hdy];exact Nat.mul_le_mul (by omega) (by omega)
  by_cases hrB:r<1000000000
  ·have hrd:decide ((r:Int)<1000000000)=true:=by rw[decide_eq_true_eq];omega
   by_cases hgt:r*1000000000+w0<dy
   ·obtain⟨hd1,hI'⟩:=(un HI).step (by rw[←hdy];exact hgt)
    have HI':=zAb hI';have hs:=hI'.sum;have hgI:decide ((r:Int)*1000000000+(w0:Int)<(dy:Int))=true:=by rw[decide_eq_true_eq];omega
    clear hI' hdy;have hr2:r+y1≤h:=by omega
    clear hs
    go_upto_region 5 with fail
    go_quiet (fail)
    go_wp2
    go_roundw
    case rel=>exact⟨d - 1,r+y1,by go_num,by go_num,hr2,HI',below_drewN hbl _⟩
    case measure=>simp[intOf];omega
   ·have hgI:decide ((r:Int)*1000000000+(w0:Int)<(dy:Int))=false:=by rw[decide_eq_false_iff_not];omega
    clear hdy
    go_upto_region 5 with fail
    go_quiet (fail)
    go_wp2
    go_ret
    exact⟨d,rfl,hdl,(un HI).few,below_drewN hbl _⟩
  ·have hrd:decide ((r:Int)<1000000000)=false:=by rw[decide_eq_false_iff_not];omega
   clear hdy
   go_upto_region 5 with fail
   go_quiet (fail)
   go_wp2
   go_ret
   exact⟨d,rfl,hdl,(un HI).few,below_drewN hbl _⟩
end Go.Proofs.YtliadckofhblnaaGreatDoor

/- Texts of rational numbers: rat.cutSign, rat.signed. -/
import Derived.Test.YtliadckofhblnaaGreatDoorLimb3
import Derived.Test.YtliadckofhblnaaGreatDoorLong
import Derived.WalkMore
import Derived.Test.YtliadckofhblnaaGreatDoorGcdFirst
import Derived.Test.YtliadckofhblnaaGreatDoorGcd
import Derived.Test.YtliadckofhblnaaGreatDoorLehmer
import Derived.Deep.RegionHeld3
import Derived.Test.YtliadckofhblnaaGreatDoorOne
set_option maxHeartbeats 2000000
set_option maxRecDepth 100000
namespace Go.Proofs.YtliadckofhblnaaGreatDoor
open Go.RowKit
theorem splice_fit (l:List Nat) (n:Nat):splice (zCx (List.replicate n 0)) 0 (zCx l)=zCx (l ++ List.replicate (n - l.length) 0):=by
  unfold splice zCx;simp
theorem field60 (a:Option Addr) (n c:Nat) (w:World):(Instr.field 80 (.agg #[.slice a n c]) 0).run Tryz.prog w=.ok (.slice a n c) w:=by kernel_rfl
theorem lval_pad (l:List Nat) (k:Nat):Cub.lval 1000000000 (l ++ List.replicate k 0)=Cub.lval 1000000000 l:=by
  rw[Cub.lval_append,Cub.lval_zeros,Nat.mul_zero,Nat.add_zero]
theorem long_start {M Y np nd:Nat} {lm:List Nat} (hl:lm.length≤np+1) (hlim:Cub.limbs 1000000000 lm) (hv:Cub.lval 1000000000 lm=M) (h:M<Y*1000000000 ^ nd) :
    Cub.LongInv M Y (np+1) nd (lm ++ List.replicate (np+1 - lm.length) 0) (List.replicate nd 0) nd:=by
  refine⟨by simp;omega,by simp,Cub.limbs_append.2 ⟨hlim,Cub.limbs_zeros _ _ (by decide)⟩,Cub.limbs_zeros _ _ (by decide),fun k hk=>?_,?_,?_⟩
  · simp[List.getD,hk]
  · rw[lval_pad,Cub.lval_zeros,Nat.mul_zero,Nat.add_zero,hv]
  · rw[lval_pad,hv];exact h
theorem getD_at (l:List Nat) (i:Nat) (h:i<l.length):l.getD i 0=l[i]:=by
  rw[List.getD_eq_getElem?_getD,List.getElem?_eq_getElem h];rfl
theorem win_getD (R:List Nat) (t k i:Nat) (hi:i<k):((R.drop t).take k).getD i 0=R.getD (t+i) 0:=by
  rw[List.getD_eq_getElem?_getD,List.getD_eq_getElem?_getD,List.getElem?_take,if_pos hi,List.getElem?_drop]
theorem long_guess {M Y nr nd r t:Nat} {R D ly:List Nat} (h:Cub.LongInv M Y nr nd R D (t+1)) (hr:1≤r) (hl:ly.length=r+1) (hlim:Cub.limbs 1000000000 ly) (hv:Cub.lval 1000000000 ly=Y) (ht:t+(r+1)+1≤nr) :
    Cub.lval 1000000000 ((R.drop t).take (r+1+1)) / Y*ly.getD r 0≤R.getD (t+(r+1)) 0*1000000000+R.getD (t+r) 0∧
    Cub.lval 1000000000 ((R.drop t).take (r+1+1)) / Y*(ly.getD r 0*1000000000+ly.getD (r - 1) 0)≤(R.getD (t+(r+1)) 0*1000000000+R.getD (t+r) 0)*1000000000+R.getD (t+(r - 1)) 0:=by
  have hR:=h.lenR;have b:=Cub.guess_bound (nc:=r+1) (W:=(R.drop t).take (r+1+1)) (Y:=ly) (q:=Cub.lval 1000000000 ((R.drop t).take (r+1+1)) / Y) (by omega) (by rw[List.length_take,List.length_drop];omega) hl (Cub.limbs_take (Cub.limbs_drop h.limR _) _) hlim (by rw[hv];exact Nat.div_mul_le_self _ _);rw[win_getD R t (r+1+1) (r+1) (by omega),win_getD R t (r+1+1) (r+1 - 1) (by omega),win_getD R t (r+1+1) (r+1 - 2) (by omega)]at b;rw[show r+1 - 1=r by omega,show r+1 - 2=r - 1 by omega]at b;exact b
theorem take_zero {n:Nat} {F:List Nat} {T Y W m:Nat} (hlim:Cub.limbs 1000000000 F) (hl:F.length=n) (h:Cub.lval 1000000000 F+T*Y=W+1000000000 ^ n*m):m=0↔T*Y≤W:=by
  have h1:=Cub.lval_lt hlim;rw[hl]at h1
  constructor
  · intro e;subst e;omega
  · intro hle
    rcases Nat.eq_zero_or_pos m with h0|h0
    · exact h0
    · have:1000000000 ^ n*1≤1000000000 ^ n*m:=Nat.mul_le_mul_left _ h0
      omega
theorem splice_win (N W:List Nat) (h:N.length=W.length):splice (zCx N) 0 (zCx W)=zCx W:=by
  unfold splice zCx;simp[h]
theorem splice_at (R F:List Nat) (t:Nat):splice (zCx R) t (zCx F)=zCx (R.take t ++ (F ++ R.drop (t+F.length))):=by
  unfold splice zCx;simp[List.map_take,List.map_drop]
theorem Own.src {w:World} {g:Nat} {l:List Nat} (h:Own w g l):∀j v,(zCx l)[j]?=some v→w.cell? ((⟨g,0,none⟩:Addr).add j)=some v:=fun j v hv=>by
  have hj:j<l.length:=by
    have:=(List.getElem?_eq_some_iff.1 hv).1
    rwa [u64s_length]at this
  rw[u64s_get l j hj,Option.some.injEq]at hv;rw[Lib.add_plain,Nat.zero_add,h.cell j hj,hv]
theorem cell_set_box {W:World} {p q:Addr} {u:Value} {k:IntKind} {z:Int} (h:W.cell? p=some (.int k z)) (hq:W.cell? q=some (.slice none 0 0)):(W.setCell q u).cell? p=some (.int k z):=by
  rw[World.cell?_setCell_other _ _ _ _ (by intro e;rw[e,h]at hq;cases hq)];exact h
theorem cell_set_keep' {W:World} {p q:Addr} {v u:Value} (h:W.cell? p=some v) (hne:q≠p):(W.setCell q u).cell? p=some v:=by
  rw[World.cell?_setCell_other _ _ _ _ hne];exact h
theorem drew0 {W0 w':World} (hb:Below W0.drew.heap.size W0.drew w'):Below W0.heap.size W0 w':=(Below.refl _ _).drew.trans hb
theorem scale_cast (top s:Nat) (hs:s=1000000000 / (top+1)):(1000000000:Int) / ((top:Int)+1)=(s:Int):=by
  rw[hs,Int.natCast_ediv];rfl
theorem long_any (m n k:Nat) (hk:k≤500000) (hm:m<1000000000 ^ k) (hn:1000000000≤n) (hle:n≤m):LongOK m n:=by
  intro w x y hx hy;have HX:=zAb hx;have HY:=zAb hy;obtain⟨ap,np,cp,rfl⟩:=hx.shape;obtain⟨aq,nq,cq,rfl⟩:=hy.shape;obtain⟨lp,hlp,hlpc,_,hnp,hvp,hcp⟩:=hx.at
  obtain⟨lq,hlq,hlqc,_,hnq,hvq,hcq⟩:=hy.at
  have hk1:np≤k:=by rw[hlp];exact Cub.len_le hnp (by rw[hvp];exact hm)
  have hqp:nq≤np:=by rw[hlp,hlq];exact norm9_len_le hnp.1 hnq (by rw[hvp,hvq];exact hle)
  have hq2:2≤nq:=by
    apply Decidable.byContradiction
    intro hc;have h1:=Cub.lval_lt hnq.1;have h2:(1000000000:Nat) ^ lq.length≤1000000000 ^ 1:=Nat.pow_le_pow_right (by decide) (by omega)
    omega
  obtain⟨r,hr⟩:∃r,nq=r+1:=⟨nq - 1,by omega⟩;obtain⟨top,htop⟩:∃top,top=lq.getD r 0:=⟨_,rfl⟩;obtain⟨t1,t2,t3,t4,t5,t6⟩:=long_scale n top r lq hnq hvq (by omega) htop;obtain⟨s,hs⟩:∃s,s=1000000000 / (top+1):=⟨_,rfl⟩;rw[←hs]at t3 t4 t5 t6;have HSC:=zAb (scale_cast top s hs)
  have HTOP:Hid (∀W,Below w.heap.size w W→∃b o,aq=some ⟨b,o,none⟩∧W.cell? ⟨b,o+r,none⟩=some (.int .u64 (top:Int))):=fun W hW=>by
    obtain⟨b,o,e,hcell⟩:=hcq W hW r (by omega);refine⟨b,o,e,?_⟩;rw[hcell,htop,List.getD_eq_getElem?_getD,List.getElem?_eq_getElem (by omega)];rfl
  have hMp:m<1000000000 ^ np:=by rw[←hvp,hlp];exact Cub.lval_lt hnp.1
  have hM:m*s<1000000000 ^ (np+1):=by
    rw[Nat.pow_succ];exact Nat.lt_of_le_of_lt (Nat.mul_le_mul_right s (Nat.le_of_lt hMp)) (Nat.mul_lt_mul_of_pos_left t4 (Nat.pow_pos (by decide)))
  have hMY:m*s<n*s*1000000000 ^ (np - nq+1):=by
    have h1:m*s<1000000000 ^ np*s:=Nat.mul_lt_mul_of_pos_right hMp t3
    have h2:1000000000 ^ r*s*1000000000 ^ (np - nq+1)≤n*s*1000000000 ^ (np - nq+1):=by
      refine Nat.mul_le_mul_right _ (Nat.mul_le_mul_right _ ?_);have h3:=Cub.normal_ge hnq (show lq≠[] by intro e;rw[e]at hlq;simp at hlq;omega);rw[hvq,←hlq,show nq - 1=r by omega]at h3;exact h3
    have h4:1000000000 ^ r*s*1000000000 ^ (np - nq+1)=1000000000 ^ np*s:=by
      rw[Nat.mul_right_comm,←Nat.pow_add]
      congr 2
      omega
    omega
  have H68:=zAb (fun W=>zFa s W (by omega))
  have hB2:m<1000000000 ^ (k+1)∧n<1000000000 ^ (k+1)∧s<1000000000 ^ (k+1):=by
    have h1:(1000000000:Nat) ^ k≤1000000000 ^ (k+1):=Nat.pow_le_pow_right (by decide) (by omega);have h2:(1000000000:Nat) ^ 1≤1000000000 ^ (k+1):=Nat.pow_le_pow_right (by decide) (by omega);generalize (1000000000:Nat) ^ k=A at *
    generalize (1000000000:Nat) ^ (k+1)=B at *
    omega
  have H54c:=zAb (fun W x y (hx:zAf W x n) (hy:zAf W y s)=>mulS x y n s (n*s) (k+1) W hx hy (by omega) hB2.2.1 hB2.2.2 rfl);have H54b:=zAb (fun W x y (hx:zAf W x m) (hy:zAf W y s)=>mulS x y m s (m*s) (k+1) W hx hy (by omega) hB2.1 hB2.2.2 rfl);have HFACT:=zAb (And.intro t5 (And.intro t6 (And.intro hM hMY)));have HEND:Hid (m*s / (n*s)=m / n∧m*s % (n*s)=m % n*s):=⟨Nat.mul_div_mul_right _ _ t3,Nat.mul_mod_mul_right _ _ _⟩;clear hx hy hlpc hlqc hnp hvp hcp hnq hvq hcq hlp hlq hB2 hM hMY hMp t5 t6 hs htop hm hn hle;generalize n*s=Y at *
  generalize m*s=M at *
  obtain⟨i0,hi,hz0,hz1,hz2⟩:=info_parts Tryz.info168;subst hr;obtain⟨nd,rfl⟩:∃nd,np=nd+r:=⟨np - r,by omega⟩;have hnd:1≤nd:=by omega
  go_enter Tryz.func214,Tryz.ntmps214;obtain⟨bq,oq,rfl,_⟩:=un HTOP w (Below.refl _ _)
  have hct:∀W,Below w.heap.size w W→W.cell? ⟨bq,oq+r,none⟩=some (.int .u64 (top:Int)):=fun W hW=>by
    obtain⟨b,o,e,hc⟩:=un HTOP W hW;simp only[Option.some.injEq,Addr.mk.injEq]at e;obtain⟨rfl,rfl,_⟩:=e;exact hc
  have hct0:=hct _ (((((Below.refl w.heap.size w).alloc (Nat.le_refl _) (.cells #[.slice ap (nd+r) cp] 80)).alloc (by simp) (.cells #[.slice (some ⟨bq,oq,none⟩) (r+1) cq] 80)).alloc (by simp;omega) (.cells #[.slice none 0 0] 80)).alloc (by simp;omega) (.cells #[.slice none 0 0] 80));have hf60:=field60
  go_wp2
  go_step3
  go_upto_region 2 with (go_at_call 210;go_must(rw[un HSC];refine(un H68 _).mono ?_;rintro e w1 ⟨sa,sl,sc,rfl,hs1,hb1⟩;have HB1:=zAb (res4 (hb1.mono (by simp)));have HS1:=zAb hs1;have b1:=(un HB1).c1;have b0:=(un HB1).c0;have z1:=(un HB1).size;have l0:w.heap.size<w1.heap.size:=World.block_lt_of_cell? _ _ b0;have l1:w.heap.size+1<w1.heap.size:=World.block_lt_of_cell? _ _ b1;clear hs1 hb1))
  have HSA:Hid (zAf (w1.alloc (.cells #[.slice sa sl sc] 80)) (.agg #[.slice sa sl sc]) s):=(un HS1).later ((Below.refl _ _).alloc (Nat.le_refl _) _);have HBA:=zAb ((un HB1).on ((Below.refl (w.heap.size+4) w1).alloc z1 (.cells #[.slice sa sl sc] 80)))
  go_upto_region 3 with (go_at_call 151;go_must(refine(un H54c _ _ _ ((un HY).later (un HBA).below) (un HSA)).mono ?_;rintro e w2 ⟨ba,bl,bc,rfl,hy2,hb2⟩;have HB2:=zAb ((un HBA).on (hb2.mono (un HBA).size));have HS2:=zAb ((un HSA).later hb2);have HY2:=zAb hy2;have HT2:=zAb hb2;have b0':=(un HB2).c0;clear hy2 hb2))
  obtain⟨ly,hly,hlyc,hbcm,hny,hvy,hcy⟩:=(un HY2).at
  have hbl:bl=r+1:=by rw[hly];exact len_between hny hvy (un HFACT).2.1 (un HFACT).1
  subst hbl;have HLY:=zAb (And.intro hly.symm (And.intro hny.1 hvy));have HCY:=zAb hcy
  have hypos:0<ly.getD r 0:=by
    obtain⟨t,x,rfl⟩:=Cub.split_last (show ly≠[] by intro e;rw[e]at hly;simp at hly);obtain⟨_,h2,_⟩:=Cub.normal_last hny;have:t.length=r:=by simp at hly;omega
    rw[←this];simpa [List.getD] using h2
  clear hly hny hvy hcy;have z2:w1.heap.size<w2.heap.size:=by have:=(un HT2).size;simp at this;omega
  have cS2:w2.cell? ⟨w1.heap.size,0,none⟩=some (.slice sa sl sc):=by
    rw[(un HT2).cell (p:=⟨w1.heap.size,0,none⟩) (by simp)];simp
  go_upto_region 4 with (at_make;go_must(refine wpList_make_full _ rfl _ _ 78 rfl w2.heap.size 168 i0 (.int .u64 0) 1 Tryz.underlying78 hi hz0 hz1 .i64 .i64 _ _ ((nd+r)+1) rfl rfl (by omega) (by omega) (by rw[hz2];omega) (by unfold maxLen;omega) (Nat.le_refl _) ?_;intro w3 hown3 hgrow3;rw[zDw]at hown3;have HO3:Hid (Own w3 w2.heap.size (List.replicate ((nd+r)+1) 0)):=Own.of_row hown3;have HT3:Hid (Bw w2 w3):=(Below.refl _ _).grown hgrow3 (Nat.le_refl _) (fun k hk=>by cases hk);have b3:=((un HB2).on ((un HT3).mono (un HB2).size)).c0;have cS3:=((un HT3).cell (p:=⟨w1.heap.size,0,none⟩) z2).trans cS2;clear hown3 hgrow3))
  have HB3:=zAb ((un HB2).on ((un HT3).mono (un HB2).size));have HS3:=zAb ((un HS2).later (un HT3))
  go_upto_region 5 with (first
    | (go_at_call 151;go_must(refine(un H54b _ _ _ ((un HX).later (un HB3).below) (un HS3)).mono ?_;rintro e w4 ⟨da,dl,dc,rfl,hm4,hb4⟩;obtain⟨lm,hlm,hlmc,hdcm,hnm,hvm,hcm⟩:=hm4.at;have hdl:dl≤(nd+r)+1:=(by rw[hlm];exact Cub.len_le hnm (by rw[hvm];exact(un HFACT).2.2.1));have HO4:=zAb ((un HO3).later hb4 (un HO3).lt);have HT4:Hid (Bw w2 w4):=(un HT3).trans (hb4.mono (un HT3).size);have HLM:=zAb (And.intro hlm (And.intro hnm.1 hvm));have HCM:=zAb hcm;clear hm4 hb4 hlm hnm hvm hcm hlmc))
    | (refine wpList_copy_splice rfl _ _ 78 78 rfl 168 Tryz.underlying78 Tryz.size168 _ _ _ _ _ _ rfl rfl w2.heap.size 0 (zCx (List.replicate ((nd+r)+1) 0)) 168 (un HO4) (zCx lm) (by rw[u64s_length,←(un HLM).1];exact(Nat.min_eq_left hdl).symm) (fun h0=>⟨by simp,(un HCM).src (Below.refl _ _) (by rw[u64s_length]at h0;exact h0)⟩) (by rw[u64s_length,u64s_length,List.length_replicate,←(un HLM).1];omega) (zGd lm) w2.heap.size w4 (Below.refl _ _) (Nat.le_refl _) ?_;intro w5 hO5 hb5;rw[splice_fit]at hO5;have HO5:=hO5;have HT5:Hid (Bw w2 w5):=(un HT4).trans hb5;clear hO5 hb5))
  have HI0:=zAb (long_start (np:=nd+r) (by rw[←(un HLM).1];exact hdl) (un HLM).2.1 (un HLM).2.2 (show M<Y*1000000000 ^ (nd) by have:=(un HFACT).2.2.2;rwa [show nd+r - (r+1)+1=nd by omega]at this));have HO5':Hid (Own w5 w2.heap.size (lm ++ List.replicate ((nd+r)+1 - lm.length) 0)):=un HO5;generalize lm ++ List.replicate ((nd+r)+1 - lm.length) 0=R0 at *
  clear HO5 HLM HCM HO3 HO4
  go_upto_region 6 with (at_make;go_must(refine wpList_make_full _ rfl _ _ 78 rfl w5.heap.size 168 i0 (.int .u64 0) 1 Tryz.underlying78 hi hz0 hz1 .i64 .i64 _ _ (nd) rfl rfl (by omega) (by omega) (by rw[hz2];omega) (by unfold maxLen;omega) (Nat.le_refl _) ?_;intro w6 hown6 hgrow6;rw[zDw]at hown6;have HO6:Hid (Own w6 w5.heap.size (List.replicate (nd) 0)):=Own.of_row hown6;have HT6:Hid (Bw w5 w6):=(Below.refl _ _).grown hgrow6 (Nat.le_refl _) (fun k hk=>by cases hk);clear hown6 hgrow6))
  go_wp2_with (at_make;go_must(refine wpList_make_full _ rfl _ _ 78 rfl w6.heap.size 168 i0 (.int .u64 0) 1 Tryz.underlying78 hi hz0 hz1 .i64 .i64 _ _ (r+1+1) rfl rfl (by omega) (by omega) (by rw[hz2];omega) (by unfold maxLen;omega) (Nat.le_refl _) ?_;intro w7 hown7 hgrow7;rw[zDw]at hown7;have HO7:Hid (Own w7 w6.heap.size (List.replicate (r+1+1) 0)):=Own.of_row hown7;have HT7:Hid (Bw w6 w7):=(Below.refl _ _).grown hgrow7 (Nat.le_refl _) (fun k hk=>by cases hk);clear hown7 hgrow7))
  have g1:w2.heap.size<w5.heap.size:=(un HO5').lt;have g2:w5.heap.size<w6.heap.size:=(un HO6).lt
  have HST:Hid (zEf w2 w7 w5.heap.size w6.heap.size R0 (List.replicate nd 0) (List.replicate (r+1+1) 0)) :=
    ⟨(un HT5).trans (((un HT6).mono (by omega)).trans ((un HT7).mono (by omega))),((un HO5').below (un HT6) g1).below (un HT7) (by omega),(un HO6).below (un HT7) g2,un HO7⟩
  clear HO5' HO6 HO7 HT7 HT6 HT5 HT4 HT3 b3 cS3 b0 b1 b0' HB3 HS3 HSA HBA H54b H54c H68
  go_step3
  go_wp2
  obtain⟨gb,ob,rfl,_⟩:=un HCY w2 (Below.refl _ _) 0 (by have:=(un HLY).1;omega)
  have HCB:Hid (∀W,Below w2.heap.size w2 W→∀i (hi:i<ly.length),W.cell? ⟨gb,ob+i,none⟩=some (.int .u64 (ly[i]:Int))):=fun W hW i hi=>by
    obtain⟨b,o,e,hc⟩:=un HCY W hW i hi;simp only[Option.some.injEq,Addr.mk.injEq]at e;obtain⟨rfl,rfl,_⟩:=e;exact hc
  have hYpos:0<Y:=by
    have h1:=(un HFACT).2.1;have h2:0<(1000000000:Nat) ^ r:=Nat.pow_pos (by decide)
    omega
  have hly1:ly.getD r 0<1000000000:=by rw[getD_at ly r (by have:=(un HLY).1;omega)];exact(un HLY).2.1 _ (List.getElem_mem _)
  have hly2:ly.getD (r - 1) 0<1000000000:=by rw[getD_at ly (r - 1) (by have:=(un HLY).1;omega)];exact(un HLY).2.1 _ (List.getElem_mem _)
  obtain⟨ls,hls,_,_,hnls,hvls,hcls⟩:=(un HS2).at
  have hls1:ls=[s]:=by
    have h1:ls.length≤1:=Cub.len_le hnls (by rw[hvls,Nat.pow_one];exact t4)
    cases ls with
    | nil=>simp[Cub.lval]at hvls;omega
    | cons x l=>
      cases l with
      | nil=>simp[Cub.lval]at hvls;rw[hvls]
      | cons y l=>simp at h1
  subst hls1;obtain⟨gs,os,rfl,_⟩:=hcls w2 (Below.refl _ _) 0 (by simp);have hsl:sl=1:=by rw[hls];rfl
  subst hsl
  have HCS:Hid (∀W,Below w2.heap.size w2 W→W.cell? ⟨w1.heap.size,0,none⟩=some (.slice (some ⟨gs,os,none⟩) 1 sc)∧W.cell? ⟨gs,os,none⟩=some (.int .u64 (s:Int))):=fun W hW=>by
    refine⟨(hW.cell (p:=⟨w1.heap.size,0,none⟩) z2).trans cS2,?_⟩;obtain⟨b,o,e,hc⟩:=hcls W hW 0 (by simp);simp only[Option.some.injEq,Addr.mk.injEq]at e;obtain⟨rfl,rfl,_⟩:=e
    simpa using hc
  clear hls hnls hvls hcls HCY
  go_loopw [11] (fun t wr=>∃(j:Nat) (R D N:List Nat),j≤nd∧t=I ((j:Int) - 1)∧Hid (Cub.LongInv M Y (nd+r+1) nd R D j)∧Hid (N.length=r+1+1)∧Hid (zEf w2 wr w5.heap.size w6.heap.size R D N)) (fun t _=>(intOf t+1).toNat)
  case atStart=>exact⟨nd,R0,_,_,Nat.le_refl _,rfl,HI0,List.length_replicate ..,HST⟩
  case round=>
    clear HST HI0;obtain⟨j,R,D,N,hj,rfl,HI,HN,HS⟩:=hrel
    by_cases hj0:j=0
    · subst hj0
      have HLAST:Hid (Cub.lval 1000000000 (Cub.trimN D)=m / n∧Cub.normal 1000000000 (Cub.trimN D)∧Cub.lval 1000000000 (Cub.trimN R)=m % n*s∧Cub.normal 1000000000 (Cub.trimN R)):=by
        obtain⟨e1,e2⟩:=(un HI).last hYpos;obtain⟨u1,u2,_⟩:=Cub.lval_trim 1000000000 _ D rfl;obtain⟨v1,v2,_⟩:=Cub.lval_trim 1000000000 _ R rfl;exact⟨by rw[u1,e1];exact(un HEND).1,u2 (un HI).limD,by rw[v1,e2];exact(un HEND).2,v2 (un HI).limR⟩
      have HLEN:=zAb (And.intro (un HI).lenR (un HI).lenD)
      have hleft:m % n*s<1000000000 ^ (nd+r+1):=by
        rw[←(un HEND).2];exact Nat.lt_of_le_of_lt (Nat.mod_le _ _) (un HFACT).2.2.1
      have H82:=zAb (fun W x (hx:zAf W x (m % n*s))=>by
        have h:=divShort_any x (m % n*s) s (nd+r+1) W hx (by omega) hleft t3 t4;rw[Nat.mul_div_cancel _ t3]at h;exact h)
      have HB:=zAb ((un HB2).on ((un HS).old.mono (un HB2).size));obtain⟨cs1,cs2⟩:=un HCS wr (un HS).old;have s1:w.heap.size+4≤w2.heap.size:=(un HB2).size;have s2:w2.heap.size<wr.heap.size:=(un HS).rest.lt;clear hleft HI HN
      go_upto_region 16 with fail
      go_region_held3 (fun w'=>w'.cell? ⟨w1.heap.size,0,none⟩=some (.slice (some ⟨gs,os,none⟩) 1 sc)∧w'.cell? ⟨gs,os,none⟩=some (.int .u64 (s:Int))) (first|assumption|(refine⟨?_,?_⟩<;>first|assumption|(refine cell_set_box ?_ ?_<;>assumption)|(simp[go_sem, *];done))|(refine cell_set_box ?_ ?_<;>assumption)|(simp[go_sem, *];done))
        (first
          | (go_at_call 217;refine(zEi _ R _ (((un HS).rest.row (nd+r+1) (nd+r+1) (un HLEN).1.symm (Nat.le_refl _) (by unfold maxLen;omega)).later ((Below.refl _ _).drew))).mono ?_;rintro e w8 ⟨v',rfl,hrow8,hb8⟩;obtain⟨a8,cap8,rfl,hcap8⟩:=hrow8.form;have hb8':=drew0 hb8;have HR8:Hid (zAf w8 (.agg #[.slice a8 (Cub.trimN R).length cap8]) (m % n*s)):=⟨_,_,rfl,hrow8,(un HLAST).2.2.2,(un HLAST).2.2.1⟩;have HT8:=zAb hb8';obtain⟨cs8a,cs8b⟩:=un HCS w8 ((un HS).old.trans (hb8'.mono (un HS).old.size));clear hrow8 hb8 hb8')
          | (go_at_call 213;refine(un H82 _ _ (un HR8)).mono ?_;rintro e w9 ⟨a1,n1,c1,a2,n2,c2,rfl,hq9,hl9,hb9⟩;have HT9:Hid (Bw wr w9):=(un HT8).trans (hb9.mono (un HT8).size);have HL9:=zAb hq9;have HB9:=zAb ((un HB).on ((un HT9).mono (by omega)));have HS9:=zAb ((un HS).later (un HT9));obtain⟨cs9a,cs9b⟩:=un HCS w9 (un HS9).old;have b9:=(un HB9).c3;have f9:=(un HB9).f3;have lt9:w.heap.size+1+1+1<w9.heap.size:=World.block_lt_of_cell? _ _ b9;clear hq9 hl9 hb9))
      all_goals (
        have HX9:Hid (zAf (w9.setCell ⟨w.heap.size+1+1+1,0,none⟩ (.slice a1 n1 c1)) (.agg #[.slice a1 n1 c1]) (m % n)):=(un HL9).box _ b9 (zBi _ _ _);have HD9:Hid (Own (w9.setCell ⟨w.heap.size+1+1+1,0,none⟩ (.slice a1 n1 c1)) w5.heap.size D):=(un HS9).digs.setOther (by simp;omega);have e3:(w9.setCell ⟨w.heap.size+1+1+1,0,none⟩ (.slice a1 n1 c1)).cell? ⟨w.heap.size+1+1+1,0,none⟩=some (.slice a1 n1 c1):=World.cell?_setCell_same _ _ _ b9;have e3f:(w9.setCell ⟨w.heap.size+1+1+1,0,none⟩ (.slice a1 n1 c1)).frozen? ⟨w.heap.size+1+1+1,0,none⟩=false:=by rw[World.frozen?_setCell];exact f9
        have e2:(w9.setCell ⟨w.heap.size+1+1+1,0,none⟩ (.slice a1 n1 c1)).cell? ⟨w.heap.size+1+1,0,none⟩=some (.slice none 0 0):=by rw[World.cell?_setCell_other _ _ _ _ (by simp)];exact(un HB9).c2
        have e2f:(w9.setCell ⟨w.heap.size+1+1+1,0,none⟩ (.slice a1 n1 c1)).frozen? ⟨w.heap.size+1+1,0,none⟩=false:=by rw[World.frozen?_setCell];exact(un HB9).f2
        have HBB:Hid (Bw w (w9.setCell ⟨w.heap.size+1+1+1,0,none⟩ (.slice a1 n1 c1))):=(un HB9).below.setCell (by simp;omega) _;generalize w9.setCell ⟨w.heap.size+1+1+1,0,none⟩ (.slice a1 n1 c1)=wA at *
        go_upto_region 17 with fail
        go_region_held3 (fun w'=>w'.cell? ⟨w.heap.size+1+1+1,0,none⟩=some (.slice a1 n1 c1)) (first|assumption|(simp[go_sem, *];done)|(refine cell_set_keep' ?_ ?_<;>first|assumption|(simp;done)))
          (first
            | (go_at_call 217;refine(zEi _ D _ (((un HD9).row nd nd (un HLEN).2.symm (Nat.le_refl _) (by unfold maxLen;omega)).later ((Below.refl _ _).drew))).mono ?_;rintro e wB ⟨v',rfl,hrowB,hbB⟩;obtain⟨aB,capB,rfl,hcapB⟩:=hrowB.form;have hbB':=drew0 hbB;have HDB:Hid (zAf wB (.agg #[.slice aB (Cub.trimN D).length capB]) (m / n)):=⟨_,_,rfl,hrowB,(un HLAST).2.1,(un HLAST).1⟩;have HXB:=zAb ((un HX9).later hbB');have HBC:=zAb ((un HBB).trans (hbB'.mono (un HBB).size));obtain⟨eB3,eB3f⟩:=zBt hbB' (g:=w.heap.size+1+1+1) (World.block_lt_of_cell? _ _ e3) e3 e3f;obtain⟨eB2,eB2f⟩:=zBt hbB' (g:=w.heap.size+1+1) (World.block_lt_of_cell? _ _ e2) e2 e2f;clear hrowB hbB hbB'))
        all_goals (
          have hcC:(wB.setCell ⟨w.heap.size+1+1,0,none⟩ (.slice aB (Cub.trimN D).length capB)).cell? ⟨w.heap.size+1+1+1,0,none⟩=some (.slice a1 n1 c1):=by
            rw[World.cell?_setCell_other _ _ _ _ (by simp)];exact eB3
          have R1:=((un HDB).box (.slice aB (Cub.trimN D).length capB) eB2 (zBi _ _ _)).box (.slice a1 n1 c1) hcC (zBi _ _ _);have R2:=((un HXB).box (.slice aB (Cub.trimN D).length capB) eB2 (zBi _ _ _)).box (.slice a1 n1 c1) hcC (zBi _ _ _);have R3:=((un HBC).setCell (p:=⟨w.heap.size+1+1,0,none⟩) (by simp;omega) (.slice aB (Cub.trimN D).length capB)).setCell (p:=⟨w.heap.size+1+1+1,0,none⟩) (by simp;omega) (.slice a1 n1 c1)
          go_wp2
          try rw[Exit.noGoto_ret]
          exact bodyPost_ret (v:=.tuple #[.agg #[.slice aB (Cub.trimN D).length capB],.agg #[.slice a1 n1 c1]]) (by simp[results,Tryz.results214,go_sem,eB2,eB3]) rfl ⟨_,_,_,_,_,_,rfl,R1,R2,R3⟩))
    · obtain⟨t,rfl⟩:∃t,j=t+1:=⟨j - 1,by omega⟩
      have HWIN:=zAb ((un HI).window (nc:=r+1) (un HFACT).1 hYpos (by omega));have HGB:=zAb (long_guess (un HI) (by omega) (un HLY).1 (un HLY).2.1 (un HLY).2.2 (by omega));obtain⟨Wl,hWl⟩:∃Wl,Wl=(R.drop t).take (r+1+1):=⟨_,rfl⟩;rw[←hWl]at HWIN HGB
      have HWL:Hid (Wl.length=r+1+1∧Cub.limbs 1000000000 Wl):=by
        rw[hWl];exact⟨by rw[List.length_take,List.length_drop,(un HI).lenR];omega,Cub.limbs_take (Cub.limbs_drop (un HI).limR _) _⟩
      have HWC:Hid (∀W,Own W w2.heap.size R→∀i v,(zCx Wl)[i]?=some v→W.cell? ((⟨w2.heap.size,t,none⟩:Addr).add i)=some v):=fun W hW i v hv=>by
        have hil:i<Wl.length:=by
          have:=(List.getElem?_eq_some_iff.1 hv).1
          rwa [u64s_length]at this
        rw[u64s_get Wl i hil,Option.some.injEq]at hv;have hlen:=(un HWL).1;have hRl:=(un HI).lenR;rw[Lib.add_plain,hW.cell (t+i) (by omega),←hv];subst hWl;rw[List.getElem_take,List.getElem_drop]
      have HR:Hid (∀i (hi:i≤r+1),wr.cell? ⟨w2.heap.size,t+i,none⟩=some (.int .u64 (R.getD (t+i) 0:Nat))∧R.getD (t+i) 0<1000000000):=fun i hi=>by
        have hRl:=(un HI).lenR;rw[getD_at R (t+i) (by omega)];exact⟨(un HS).rest.cell (t+i) (by omega),(un HI).limR _ (List.getElem_mem _)⟩
      have HSTEP:=zAb (fun (F:List Nat) (hF:F.length=r+1+1) (hlF:Cub.limbs 1000000000 F) (hv:Cub.lval 1000000000 F+Cub.lval 1000000000 Wl / Y*Y=Cub.lval 1000000000 Wl)=>(un HI).step (nc:=r+1) (F:=F) (q:=Cub.lval 1000000000 Wl / Y) (un HFACT).1 hYpos (by omega) (by omega) hF hlF (by rw[←hWl];exact hv) (by rw[←hWl]));obtain⟨q,hq⟩:∃q,q=Cub.lval 1000000000 Wl / Y:=⟨_,rfl⟩;rw[←hq]at HWIN HGB HSTEP;have HQ:=zAb hq;have c2:=un HR (r+1) (Nat.le_refl _);have c1:=un HR r (by omega);have c0:=un HR (r - 1) (by omega);have k1:=un HCB wr (un HS).old r (by have:=(un HLY).1;omega);have k0:=un HCB wr (un HS).old (r - 1) (by have:=(un HLY).1;omega);rw[←getD_at]at k1 k0;have HG:=zAb (guess_any w2.heap.size t (r+1) (nd+r+1 - t) (some ⟨gb,ob,none⟩) bc (R.getD (t+(r - 1)) 0) (R.getD (t+r) 0) (R.getD (t+(r+1)) 0) (ly.getD r 0) (ly.getD (r - 1) 0) gb ob wr (by omega) (by omega) (by omega) rfl c2.1 (by rw[show r+1 - 1=r by omega];exact c1.1) (by rw[show r+1 - 2=r - 1 by omega];exact c0.1) (by rw[show r+1 - 1=r by omega];exact k1) (by rw[show r+1 - 2=r - 1 by omega];exact k0) c0.2 c1.2 c2.2 hly1 hly2 hypos);clear c2 c1 c0 k1 k0 HR hWl hq;rw[show(((t+1:Nat):Int) - 1)=(t:Int)from by omega];have i1:(t:Int)≤(t:Int)+((r:Int)+1)+1:=by omega
      have i2:(t:Int)+((r:Int)+1)+1≤(nd:Int)+(r:Int)+1:=by omega
      have i3:(t:Int)≤(nd:Int)+(r:Int)+1:=by omega
      have i4:¬nd+r+1=t:=by omega
      have eW:t+(r+1)+1 - t=r+1+1:=by omega
      have HEW:=zAb eW;clear eW
      have HQB:Hid (q*Y≤Cub.lval 1000000000 Wl∧Cub.lval 1000000000 Wl<q*Y+Y):=by
        rw[un HQ];refine⟨Nat.div_mul_le_self _ _,?_⟩;have h1:=Nat.div_add_mod (Cub.lval 1000000000 Wl) Y;have h2:=Nat.mod_lt (Cub.lval 1000000000 Wl) hYpos;rw[Nat.mul_comm]at h1
        omega
      go_wp2_with (go_at_call 258;go_must(rw[un HEW];refine(un HG).mono ?_;rintro e w8 ⟨d0,rfl,hd0,hfew,hb8⟩;have HD0:Hid (q≤d0):=hfew q (un HWIN).2.1 (un HGB).1 (un HGB).2;have HS8:=zAb ((un HS).later hb8);clear hfew hb8))
      clear HS HG HGB
      go_loopw [12] (fun a wv=>∃(d:Nat) (P:List Nat),a=.int .u64 (d:Int)∧d<1000000000∧Hid (q≤d)∧Hid (P.length=r+1+1)∧Hid (zEf w2 wv w5.heap.size w6.heap.size R D P)) (fun a _=>(intOf a).toNat)
      case atStart=>exact⟨d0,N,rfl,hd0,HD0,HN,HS8⟩
      case round=>
        clear HS8 HN HD0 hd0;obtain⟨d,P,rfl,hd,HQD,HP,HS⟩:=hrel;have hlw:=(un HWL).1;have hlRR:=(un HI).lenR;have hlDD:=(un HI).lenD;have HLRD:=zAb (And.intro hlw (And.intro hlRR hlDD));clear hlw hlRR hlDD;have HTA:=zAb (fun (W:World) (hO:Own W w6.heap.size Wl) (hold:Below w2.heap.size w2 W)=>takeAway_any w6.heap.size (r+1+1) (r+1+1) Wl ly (some ⟨gb,ob,none⟩) (r+1) bc d W hO (un HLRD).1.symm (by omega) (un HWL).2 (un HLY).1.symm (by omega) (un HLY).2.1 (Nat.le_refl _) hd (fun W' hW' i hi=>⟨gb,ob,rfl,un HCB W' (hold.trans (hW'.mono (by omega))) i hi⟩))
        have HN1:Hid ((zCx Wl).length=Nat.min (nd+r+1 - t) (r+1+1)):=by
          rw[u64s_length,(un HLRD).1];exact(Nat.min_eq_right (by omega)).symm
        have HN2:Hid (0+(zCx Wl).length≤(zCx P).length):=by
          rw[u64s_length,u64s_length,un HP,(un HLRD).1];exact(by omega:0+(r+1+1)≤r+1+1)
        have HSW:=zAb (splice_win P Wl (by rw[un HP,(un HLRD).1]))
        by_cases hfit:d*Y≤Cub.lval 1000000000 Wl
        · have hdq:d=q:=by
            have h1:=(un HQB).2;have h2:=un HQD
            apply Decidable.byContradiction
            intro hne;have h3:(q+1)*Y≤d*Y:=Nat.mul_le_mul_right _ (by omega);rw[Nat.add_mul,Nat.one_mul]at h3
            omega
          have HDQ:=zAb hdq;have HFIT:=zAb hfit;clear hdq hfit HQD
          go_upto_region 14 with (first
            | ((refine wpList_copy_splice rfl (.tmp 68) (.tmp 71) 78 78 rfl 168 Tryz.underlying78 Tryz.size168 (some ⟨w6.heap.size,0,none⟩) (some ⟨w2.heap.size,t,none⟩) (r+1+1) (r+1+1) (nd+r+1 - t) (nd+r+1 - t) rfl rfl w6.heap.size 0 (zCx P) 168 (un HS).win (zCx Wl) (un HN1) (fun _=>⟨rfl,⟨_,rfl,un HWC _ (un HS).rest⟩⟩) (un HN2) (zGd Wl) w6.heap.size wr (Below.refl _ _) (Nat.le_refl _) ?_;intro w9 hO9 hb9;rw[un HSW]at hO9;have HS9:=zAb ((un HS).window (Nat.lt_trans g1 g2) g2 hb9 (un hO9));clear hO9 hb9))
            | (go_at_call 259;go_must(refine(un HTA _ (un HS9).win (un HS9).old).mono ?_;rintro e w10 ⟨mi,F,rfl,hO10,hF10,hlF10,hv10,hmi10,hb10⟩;rw[(un HLY).2.2]at hv10;have hmi:mi=0:=(take_zero hlF10 hF10 hv10).2 (un HFIT);subst hmi;have HS10:=zAb ((un HS9).window (Nat.lt_trans g1 g2) g2 hb10 hO10);have HF10:=zAb (And.intro hF10 (And.intro hlF10 hv10));clear hO10 hF10 hlF10 hv10 hb10 hmi10)))
          have HI':Hid (Cub.LongInv M Y (nd+r+1) nd (R.take t ++ (F ++ R.drop (t+F.length))) (D.set t d) t):=by
            rw[(un HF10).1,un HDQ];refine un HSTEP F (un HF10).1 (un HF10).2.1 ?_;have h1:=(un HF10).2.2;rw[un HDQ,Nat.mul_zero,Nat.add_zero]at h1;exact h1
          have HN3:Hid ((zCx F).length=Nat.min (r+1+1) (nd+r+1 - t)):=by
            rw[u64s_length,(un HF10).1];exact(Nat.min_eq_left (by omega)).symm
          have HN4:Hid (t+(zCx F).length≤(zCx R).length):=by
            rw[u64s_length,u64s_length,(un HF10).1,(un HLRD).2.1];exact(by omega:t+(r+1+1)≤nd+r+1)
          go_upto_region 15 with ((refine wpList_copy_far rfl (.tmp 80) (.tmp 81) 78 78 rfl 168 Tryz.underlying78 Tryz.size168 (some ⟨w2.heap.size,t,none⟩) (some ⟨w6.heap.size,0,none⟩) (nd+r+1 - t) (nd+r+1 - t) (r+1+1) (r+1+1) rfl rfl w2.heap.size t (zCx R) 168 (un HS10).rest (zCx F) (un HN3) (fun _=>⟨rfl,⟨_,rfl,(un HS10).win.src⟩⟩) (un HN4) (zGd F) ?_;intro w11 hO11 hfar;rw[splice_at]at hO11;have HS11:=zAb ((un HS10).fill (Nat.ne_of_lt (Nat.lt_trans g1 g2)) (Nat.ne_of_gt g1) (un hfar) (un hO11));clear hO11 hfar))
          have hcd:=(un HS11).digs.cell t (by rw[(un HLRD).2.2];omega);have hfd:=(un HS11).digs.frozen t;have htn:(t:Int)<(nd:Int):=by omega
          have HS12:=zAb ((un HS11).digit g1 (Nat.ne_of_lt g2) t d (d:Int) rfl);generalize D[t]'(by rw[(un HLRD).2.2];omega)=dt at *
          go_wp2
          go_roundw
          case rel=>exact⟨t,R.take t ++ (F ++ R.drop (t+F.length)),D.set t d,F,by omega,by go_num,HI',(un HF10).1,HS12⟩
          case measure=>simp[intOf]
        · have hd1:1≤d:=by
            rcases Nat.eq_zero_or_pos d with e|e
            · subst e;omega
            · exact e
          have HQD':Hid (q≤d - 1):=by
            have h1:=(un HQB).1;have h2:=un HQD;have h3:q≠d:=by intro e;subst e;exact hfit h1
            exact(by omega:q≤d - 1)
          have HFIT:=zAb hfit;clear hfit HQD
          go_wp2_with (first
            | ((refine wpList_copy_splice rfl (.tmp 68) (.tmp 71) 78 78 rfl 168 Tryz.underlying78 Tryz.size168 (some ⟨w6.heap.size,0,none⟩) (some ⟨w2.heap.size,t,none⟩) (r+1+1) (r+1+1) (nd+r+1 - t) (nd+r+1 - t) rfl rfl w6.heap.size 0 (zCx P) 168 (un HS).win (zCx Wl) (un HN1) (fun _=>⟨rfl,⟨_,rfl,un HWC _ (un HS).rest⟩⟩) (un HN2) (zGd Wl) w6.heap.size wr (Below.refl _ _) (Nat.le_refl _) ?_;intro w9 hO9 hb9;rw[un HSW]at hO9;have HS9:=zAb ((un HS).window (Nat.lt_trans g1 g2) g2 hb9 (un hO9));clear hO9 hb9))
            | (go_at_call 259;go_must(refine(un HTA _ (un HS9).win (un HS9).old).mono ?_;rintro e w10 ⟨mi,F,rfl,hO10,hF10,hlF10,hv10,hmi10,hb10⟩;rw[(un HLY).2.2]at hv10;have hmi:((mi:Int) == 0)=false:=(by rw[beq_eq_false_iff_ne];intro e;exact un HFIT ((take_zero hlF10 hF10 hv10).1 (by omega)));have HS10:=zAb ((un HS9).window (Nat.lt_trans g1 g2) g2 hb10 hO10);have HF10:=zAb hF10;clear hO10 hF10 hlF10 hv10 hb10 hmi10)))
          go_roundw
          case rel=>exact⟨d - 1,F,by go_num,by omega,HQD',HF10,HS10⟩
          case measure=>simp[intOf];omega
theorem divAns (k:Nat) (hk:k≤100000):DivAns k:=fun W x y m n hx hy hm hn=>
 divMod_core x y m n k W hx hy (by omega) hm hn (fun h1 h2=>long_any m n k (by omega) hm h1 h2)
theorem divOK (k:Nat) (hk:k≤100000):DivOK k:=divAns k hk
theorem gcdAns (k:Nat) (hk:k≤100000):GcdAns k:=fun W x y m n hx hy hm hn=>gcd_any x y m n k W hx hy hk hm hn (divOK k hk)
def QOf (w:World) (v:Value) (x:Rat) (k:Nat):Prop:=∃b n d,zCd w v b n d∧Cub.Low b n d∧Cub.valQ b n d=x∧n<1000000000 ^ k∧d<1000000000 ^ k
theorem QOf.later {w w':World} {v:Value} {x:Rat} {k:Nat} (h:QOf w v x k) (hb:Below w.heap.size w w'):QOf w' v x k:=by
 obtain⟨b,n,d,h1,h2⟩:=h;exact⟨b,n,d,h1.later hb,h2⟩
theorem QOf.form {w:World} {v:Value} {x:Rat} {k:Nat} (h:QOf w v x k):∃b a1 l1 c1 a2 l2 c2,v=.agg #[.bool b,.slice a1 l1 c1,.slice a2 l2 c2]:=by
 obtain⟨b,n,d,h1,_⟩:=h;obtain⟨a1,l1,c1,a2,l2,c2,rfl,_,_⟩:=h1.form;exact⟨b,a1,l1,c1,a2,l2,c2,rfl⟩
theorem qsign (x:Value) (p:Rat) (k:Nat) (w:World) (hx:QOf w x p k) :
  Calls Tryz.prog 68 #[x] w fun r w'=>r=.returned (I (Cub.cmpQ p 0))∧Bw w w':=by
 obtain⟨b,n,d,h1,h2,rfl,h4,h5⟩:=hx;rw[←signI_val h2];exact sign_any x b n d w h1
theorem qinv (x:Value) (p:Rat) (k:Nat) (w:World) (hx:QOf w x p k) (hp:p≠0) :
  Calls Tryz.prog 155 #[x] w fun r w'=>∃v,r=.returned v∧QOf w' v p⁻¹ k∧Bw w w':=by
 obtain⟨b,n,d,h1,h2,rfl,h4,h5⟩:=hx;have hn:n≠0:=by intro h;subst h;exact hp (Cub.valQ_zero _ _)
 refine(inv_any x b n d w h1).mono ?_;rintro r w' ⟨v,rfl,j1,hb⟩;exact⟨v,rfl,⟨_,_,_,j1,(Cub.inv_low h2 hn).1,(Cub.inv_low h2 hn).2,h5,h4⟩,hb⟩
theorem qtimes (B:Nat) (b c:Bool) (a1 a2 a3 a4:Option Addr) (l1 d1 l2 d2 l3 d3 l4 d4:Nat) (p q:Rat) (k:Nat) (w:World)
  (c0:w.cell? ⟨B,0,none⟩=some (.bool b)) (c1:w.cell? ⟨B,1,none⟩=some (.slice a1 l1 d1)) (c2:w.cell? ⟨B,2,none⟩=some (.slice a2 l2 d2)) (c3:w.cell? ⟨B,3,none⟩=some (.bool c)) (c4:w.cell? ⟨B,4,none⟩=some (.slice a3 l3 d3)) (c5:w.cell? ⟨B,5,none⟩=some (.slice a4 l4 d4))
  (hx:QOf w (.agg #[.bool b,.slice a1 l1 d1,.slice a2 l2 d2]) p k) (hy:QOf w (.agg #[.bool c,.slice a3 l3 d3,.slice a4 l4 d4]) q k) (hk:k+k≤100000) :
  Calls Tryz.prog 147 #[.slice (some ⟨B,0,none⟩) 2 2] w fun r w'=>∃v,r=.returned v∧QOf w' v (p*q) (k+k)∧Bw w w':=by
 obtain⟨b',n,d,⟨s,t,e1,h1,h1'⟩,h2,rfl,h4,h5⟩:=hx;obtain⟨c',m,e,⟨s',t',e2,i1,i1'⟩,i2,rfl,i4,i5⟩:=hy;simp only[Value.agg.injEq,Array.mk.injEq,List.cons.injEq,Value.bool.injEq,and_true]at e1 e2;obtain⟨rfl,rfl,rfl⟩:=e1;obtain⟨rfl,rfl,rfl⟩:=e2;refine(times_any B b c a1 a2 a3 a4 l1 d1 l2 d2 l3 d3 l4 d4 n d m e k w c0 c1 c2 c3 c4 c5 h1 h1' i1 i1' hk h4 h5 i4 i5 h2.pos i2.pos (divAns k (by omega)) (gcdAns k (by omega))).mono ?_;rintro r w' ⟨v,rfl,j1,hb⟩;obtain⟨o1,o2⟩:=Cub.mul_low h2 i2
 have eb:(b != c && decide (n / n.gcd e*(m / m.gcd d)≠0))=(!(b == c) && !(n / n.gcd e*(m / m.gcd d) == 0)):=by
  rw[show(b != c)=!(b == c)from rfl]
  by_cases h0:n / n.gcd e*(m / m.gcd d)=0
  ·simp[h0]
  ·rw[show(n / n.gcd e*(m / m.gcd d) == 0)=false from by rw[beq_eq_false_iff_ne];exact h0];simp[h0]
 rw[eb]at o1 o2;have z1:=Nat.div_le_self n (n.gcd e);have z2:=Nat.div_le_self m (m.gcd d);have z3:=Nat.div_le_self d (m.gcd d);have z4:=Nat.div_le_self e (n.gcd e);exact⟨v,rfl,⟨_,_,_,j1,o1,o2,by rw[Nat.pow_add];exact Nat.mul_lt_mul'' (by omega) (by omega),by rw[Nat.pow_add];exact Nat.mul_lt_mul'' (by omega) (by omega)⟩,hb⟩
theorem QOf.stored {W:World} {g:Nat} {b b':Bool} {a1 a2:Option Addr} {l1 c1 l2 c2:Nat} (h:FBox W g (.bool b) (.slice a1 l1 c1) (.slice a2 l2 c2)) {a3 a4:Option Addr} {l3 c3 l4 c4:Nat} {x:Rat} {k:Nat}
  (hv:QOf W (.agg #[.bool b',.slice a3 l3 c3,.slice a4 l4 c4]) x k):QOf (zAs W g (.bool b') (.slice a3 l3 c3) (.slice a4 l4 c4)) (.agg #[.bool b',.slice a3 l3 c3,.slice a4 l4 c4]) x k:=by
 obtain⟨b0,n,d,⟨s,t,e,h1,h1'⟩,h2⟩:=hv;exact⟨b0,n,d,⟨s,t,e,h.big _ _ _ h1,h.big _ _ _ h1'⟩,h2⟩
def isNeg (s:ByteArray):Bool:=s.data.toList.head? == some 45
def digT (s:ByteArray):ByteArray:=if isNeg s then⟨s.data.toList.tail.toArray⟩else s
def sT (b:Bool) (n:Nat):ByteArray:=if b then⟨#[45]⟩ ++ tb n else tb n
theorem hasPre (l:List UInt8):Lib.hasPrefix l [45]=(l.head? == some 45):=by
 cases l with
 | nil=>rfl
 | cons a t=>
  simp[Lib.hasPrefix,List.isPrefixOf];rw[Bool.eq_iff_iff];simp;exact eq_comm
theorem trimPre (l:List UInt8):Lib.trimPrefix l [45]=if (l.head? == some 45)=true then l.tail else l:=by
 unfold Lib.trimPrefix;rw[hasPre]
 split<;>cases l<;>simp_all
theorem digT_list (s:ByteArray):(digT s).data.toList=if isNeg s=true then s.data.toList.tail else s.data.toList:=by
 unfold digT;split<;>rfl
theorem zGb {s t:ByteArray} (h:s.data.toList=t.data.toList):s=t:=by
 apply ByteArray.ext;exact Array.ext' h
theorem cut_digT (s:ByteArray):(⟨(Lib.trimPrefix s.data.toList [45]).toArray⟩:ByteArray)=digT s:=by
 apply zGb
 rw[digT_list,mk_list,trimPre]
 rfl
theorem cutSign_any (s:ByteArray) (w:World) :
  Calls Tryz.prog 185 #[.string s] w fun e w'=>e=.returned (.tuple #[.bool (isNeg s),.string (digT s)])∧w'=w:=by
 have H:=zAb (Tryz.strings_CutPrefix s ⟨#[45]⟩ w);have e1:Lib.hasPrefix s.data.toList (⟨#[45]⟩:ByteArray).data.toList=isNeg s:=hasPre _;have e2:(⟨(Lib.trimPrefix s.data.toList (⟨#[45]⟩:ByteArray).data.toList).toArray⟩:ByteArray)=digT s:=cut_digT s;rw[e1,e2]at H;clear e1 e2;generalize isNeg s=b at *
 generalize digT s=t at *
 go_enter Tryz.func185,Tryz.ntmps185
 go_wp2_with (go_at_call 237;go_must(refine(un H).mono ?_;rintro e w1 ⟨rfl,rfl⟩))
 exact bodyPost_ret (v:=.tuple #[.bool b,.string t]) (by simp[results,Tryz.results185,go_sem]) rfl ⟨rfl,rfl⟩
theorem signed_any (b:Bool) (s:ByteArray) (w:World) (hs:s.size≤1000000) :
  Calls Tryz.prog 120 #[.bool b,.string s] w fun e w'=>e=.returned (.string (if b then⟨#[45]⟩ ++ s else s))∧w'=w:=by
 cases b with
 | true=>
  have hl:(⟨#[45]⟩:ByteArray).size=1:=rfl;go_enter Tryz.func120,Tryz.ntmps120
  go_wp2
  go_ret
  exact⟨rfl,rfl⟩
 | false=>
  go_enter Tryz.func120,Tryz.ntmps120
  go_wp2
  go_ret
  exact⟨rfl,rfl⟩
theorem zFd (n:Nat) (h:n<10 ^ 600):Cub.digs (tb n).data.toList∧(tb n).size≤600:=right_digs (zEk n h).1
theorem neg_tb (n:Nat) (h:n<10 ^ 600):isNeg (tb n)=false:=by
 have hd:=(zFd n h).1;unfold isNeg
 cases e:(tb n).data.toList with
 | nil=>rfl
 | cons a t=>
  rw[e]at hd;have:=hd a (by simp);simp only[List.head?_cons];rw[show(some a == some (45:UInt8))=(a == 45)from rfl];rw[beq_eq_false_iff_ne];intro e45;subst e45
  revert this
  decide
theorem sT_list (b:Bool) (n:Nat):(sT b n).data.toList=if b=true then 45 :: (tb n).data.toList else(tb n).data.toList:=by
 cases b
 ·rfl
 ·simp[sT]
theorem neg_sT (b:Bool) (n:Nat) (h:n<10 ^ 600):isNeg (sT b n)=b:=by
 cases b
 ·exact neg_tb n h
 ·unfold isNeg;rw[sT_list];rfl
theorem dig_sT (b:Bool) (n:Nat) (h:n<10 ^ 600):digT (sT b n)=tb n:=by
 apply zGb
 rw[digT_list,neg_sT b n h,sT_list]
 cases b<;>rfl
structure RT (num den:ByteArray) (b:Bool) (n d:Nat):Prop where
 num:num=sT b n
 den:den=tb d
 hn:n<10 ^ 600
 hd:d<10 ^ 600
 low:Cub.Low b n d
theorem tb_eq48 (n:Nat) (h:n<10 ^ 600):((tb n).toList == [48])=(n == 0):=by
 by_cases h0:n=0
 ·subst h0;rw[Lib.toList_data,tb_list 0 h,dec_zero];rfl
 ·rw[beq_eq_false_iff_ne.2 h0,beq_eq_false_iff_ne]
  intro e;rw[Lib.toList_data]at e;have:val (tb n)=0:=zero_val e;rw[show val (tb n)=n from(zEk n h).2]at this;exact h0 this
end Go.Proofs.YtliadckofhblnaaGreatDoor

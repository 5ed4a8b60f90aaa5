/- The scales by their words. -/
import Derived.Test.YtliadckofhblnaaGreatDoorLimb3
import Derived.Test.YtliadckofhblnaaGreatDoorTmTold
import Derived.Test.YtliadckofhblnaaGreatDoorOfs
import Derived.OwnWalk
import Derived.Laws.AppendOwn
import Derived.Laws.EntriesVeiled
set_option maxHeartbeats 4000000
set_option maxRecDepth 100000
namespace Go.Proofs.YtliadckofhblnaaGreatDoor.Tm
open Go.RowKit
theorem one_lt (E:Nat) (h:E=600):(1:Nat)<10 ^ E:=Nat.one_lt_pow (by omega) (by decide)
theorem zFx (E:Nat) (h:E=600):10 ^ 20≤10 ^ E:=Nat.pow_le_pow_right (by decide) (by omega)
theorem zDt {x:Rat} (h1:x.num.natAbs<10 ^ 20) (h2:x.den<10 ^ 20):Small x:=⟨Nat.lt_of_lt_of_le h1 (zFx 600 rfl),Nat.lt_of_lt_of_le h2 (zFx 600 rfl)⟩
theorem zCh (N:Nat) (hN:N<9223372036854775808):IsR (sT false N) ⟨#[49]⟩ (Cub.valQ false N 1):=by
 have hs:N<10 ^ 600:=u64_600 N (by omega);have hl:Cub.Low false N 1:=⟨by decide,Nat.gcd_one_right _,fun h=>by cases h⟩;obtain⟨e1,e2,e3⟩:=Cub.low_is hl;have hsm:Small (Cub.valQ false N 1):=⟨by rw[←e2];exact hs,by rw[←e3];exact one_lt 600 rfl⟩;refine⟨hsm,?_,?_⟩
 ·unfold zEp;rw[if_pos hsm,←e1,←e2]
 ·unfold zEr;rw[if_pos hsm,←e3];exact(zHk ⟨#[49]⟩ 1 (by decide) (by decide)).1
theorem zGf (N D:Nat) (q:Rat) (w:World) (hN:N<9223372036854775808) (hD:D<9223372036854775808) (hD0:Cub.valQ false D 1≠0) (hq:Cub.valQ false N 1*(Cub.valQ false D 1)⁻¹=q) (hs:Small q) (htab:Tab w) :
  Calls Tryz.prog 109 #[.agg #[I (N:Int),I (D:Int)]] w fun r w'=>r=.returned (.agg #[.string (zEp q),.string (zEr q)])∧Bw w w':=by
 refine told_walk (N:Int) (D:Int) (sT false N) ⟨#[49]⟩ (sT false D) ⟨#[49]⟩ (zEp q) (zEr q) w (fun W hb=>zCg N W hN (htab.later hb)) (fun W hb=>zCg D W hD (htab.later hb)) (fun W hb=>?_);have h:=zGq (sT false N) ⟨#[49]⟩ (sT false D) ⟨#[49]⟩ _ _ W (zCh N hN) (zCh D hD) hD0 (htab.later hb);unfold Ans at h
 rw[hq,show zHa q=0 from by unfold zHa;rw[if_pos hs]]at h;exact h
theorem zEq (N D:Nat) (q:Rat) (w:World) (hN:N<9223372036854775808) (hD:D<9223372036854775808) (hD0:Cub.valQ false D 1≠0) (hq:Cub.valQ false N 1*(Cub.valQ false D 1)⁻¹=q) (hs:Small q) (htab:Tab w) :
  Calls Tryz.prog 54 #[.agg #[I (N:Int),I (D:Int)]] w fun r w'=>∃v,r=.returned v∧QOf w' v q 67∧Bw w w':=by
 obtain⟨V,hV⟩:∃V,V=(w.alloc (.cells #[I (N:Int),I (D:Int)] 89)).alloc (.cells #[.bool false,.slice none 0 0,.slice none 0 0] 82):=⟨_,rfl⟩;have HA:Hid (T2 V w.heap.size (I (N:Int)) (I (D:Int))):=by rw[hV];exact⟨by simp[go_sem],by simp[go_sem],by simp[go_sem],by simp[go_sem]⟩
 have HR:Hid (FBox V (w.heap.size+1) (.bool false) (.slice none 0 0) (.slice none 0 0)):=by rw[hV];exact⟨by simp[go_sem],by simp[go_sem],by simp[go_sem],by simp[go_sem],by simp[go_sem],by simp[go_sem]⟩
 have HB:Hid (Bw w V):=by rw[hV];exact bA.alloc (by simp) _
 have HV:=zAb hV;have HT:=zAb (fun W hb=>zGf N D q W hN hD hD0 hq hs (htab.later hb));have HRD:=zAb (fun W=>qread (zEp q) (zEr q) q W (numT_of hs));clear hV htab hs hq hD0 hN hD;generalize zEp q=nt at *
 generalize zEr q=dt at *
 go_enter Tryz.func54,Tryz.ntmps54
 go_upto_region 1 with fail
 rw[←un HV];clear HV;have t0:=(un HA).c0;have t1:=(un HA).c1
 go_upto_region 2 with (first
  | (go_at_call 109;go_must(refine(un HT _ (un HB)).mono ?_;rintro e w1 ⟨rfl,hb1⟩;have HB1:=zAb hb1;clear hb1 t0 t1))
  | (go_at_call 118;go_must(refine(un HRD _).mono ?_;rintro e w2 ⟨v2,rfl,hv2,hb2⟩;obtain⟨b1,i1,i2,i3,i4,i5,i6,rfl⟩:=hv2.form;have HV2:=zAb hv2;have HB2:Hid (Bw V w2):=bt HB1 hb2;clear hv2 hb2)))
 obtain⟨U,hU⟩:∃U,U=w2.alloc (.cells #[.bool b1,.slice i1 i2 i3,.slice i4 i5 i6] 82):=⟨_,rfl⟩;have HBU2:Hid (Bw w2 U):=by rw[hU];exact bA
 have HX:Hid (FBox U w2.heap.size (.bool b1) (.slice i1 i2 i3) (.slice i4 i5 i6)):=by rw[hU];exact⟨by simp[go_sem],by simp[go_sem],by simp[go_sem],by simp[go_sem],by simp[go_sem],by simp[go_sem]⟩
 rw[←hU];clear hU;have HBU:Hid (Bw V U):=(un HB2).trans ((un HBU2).mono (un HB2).size);have HRU:=zAb ((un HR).later (un HBU));have HVU:=zAb ((un HV2).later (un HBU2));have HBW:Hid (Bw w U):=(un HB).trans ((un HBU).mono (un HB).size);generalize w2.heap.size=g2 at *
 have x0:=(un HX).c0;have x1:=(un HX).c1;have x2:=(un HX).c2;have r0:=(un HRU).c0;have r1:=(un HRU).c1;have r2:=(un HRU).c2;have rf0:=(un HRU).f0;have rf1:=(un HRU).f1;have rf2:=(un HRU).f2
 go_wp2_with fail
 have hS:=(un HRU).store (.bool b1) (.slice i1 i2 i3) (.slice i4 i5 i6);have u0:=hS.c0;have u1:=hS.c1;have u2:=hS.c2;exact bodyPost_ret (v:=.agg #[.bool b1,.slice i1 i2 i3,.slice i4 i5 i6]) (w:=zAs U (w.heap.size+1) (.bool b1) (.slice i1 i2 i3) (.slice i4 i5 i6)) (by simp[results,Tryz.results54,go_sem,u0,u1,u2]) rfl ⟨_,rfl,(un HVU).stored (un HRU),zAq (un HBW) (by omega) _ _ _⟩
structure T6 (W:World) (g:Nat) (a b c d e f:Value):Prop where
 c0:W.cell? ⟨g,0,none⟩=some a
 c1:W.cell? ⟨g,1,none⟩=some b
 c2:W.cell? ⟨g,2,none⟩=some c
 c3:W.cell? ⟨g,3,none⟩=some d
 c4:W.cell? ⟨g,4,none⟩=some e
 c5:W.cell? ⟨g,5,none⟩=some f
 f0:W.frozen? ⟨g,0,none⟩=false
 f1:W.frozen? ⟨g,1,none⟩=false
 f2:W.frozen? ⟨g,2,none⟩=false
 f3:W.frozen? ⟨g,3,none⟩=false
 f4:W.frozen? ⟨g,4,none⟩=false
 f5:W.frozen? ⟨g,5,none⟩=false
theorem T6.lt {W:World} {g:Nat} {a b c d e f:Value} (h:T6 W g a b c d e f):g<W.heap.size:=World.block_lt_of_cell? _ _ h.c0
theorem T6.later {W V:World} {g:Nat} {a b c d e f:Value} (h:T6 W g a b c d e f) (hb:Below W.heap.size W V):T6 V g a b c d e f :=
 ⟨(hb.cell (p:=⟨g,0,none⟩) h.lt).trans h.c0,(hb.cell (p:=⟨g,1,none⟩) h.lt).trans h.c1,(hb.cell (p:=⟨g,2,none⟩) h.lt).trans h.c2,(hb.cell (p:=⟨g,3,none⟩) h.lt).trans h.c3,(hb.cell (p:=⟨g,4,none⟩) h.lt).trans h.c4,(hb.cell (p:=⟨g,5,none⟩) h.lt).trans h.c5,(hb.frozen (p:=⟨g,0,none⟩) h.lt).trans h.f0,(hb.frozen (p:=⟨g,1,none⟩) h.lt).trans h.f1,(hb.frozen (p:=⟨g,2,none⟩) h.lt).trans h.f2,(hb.frozen (p:=⟨g,3,none⟩) h.lt).trans h.f3,(hb.frozen (p:=⟨g,4,none⟩) h.lt).trans h.f4,(hb.frozen (p:=⟨g,5,none⟩) h.lt).trans h.f5⟩
theorem steps_any (ux z:Value) (p x:Rat) (k:Nat) (w:World) (b c d:Bool) (a1 a2 a3 a4 a5 a6:Option Addr) (l1 c1 l2 c2 l3 c3 l4 c4 l5 c5 l6 c6:Nat) (hux:ux=.agg #[.bool b,.slice a1 l1 c1,.slice a2 l2 c2]) (hzz:z=.agg #[.bool d,.slice a5 l5 c5,.slice a6 l6 c6]) (hx:QOf w ux p k) (hz:QOf w z x k) (hk:k+k≤100000) :
  Calls Tryz.prog 181 #[.agg #[.bool b,.slice a1 l1 c1,.slice a2 l2 c2,.bool c,.slice a3 l3 c3,.slice a4 l4 c4],z] w fun r w'=>∃v,r=.returned v∧QOf w' v (x*p) (k+k)∧Bw w w':=by
 subst hux hzz;obtain⟨V,hV⟩:∃V,V=((w.alloc (.cells #[.bool b,.slice a1 l1 c1,.slice a2 l2 c2,.bool c,.slice a3 l3 c3,.slice a4 l4 c4] 84)).alloc (.cells #[.bool d,.slice a5 l5 c5,.slice a6 l6 c6] 82)).alloc (.cells #[.bool false,.slice none 0 0,.slice none 0 0] 82):=⟨_,rfl⟩;have HU:Hid (T6 V w.heap.size (.bool b) (.slice a1 l1 c1) (.slice a2 l2 c2) (.bool c) (.slice a3 l3 c3) (.slice a4 l4 c4)):=by rw[hV];exact⟨by simp[go_sem],by simp[go_sem],by simp[go_sem],by simp[go_sem],by simp[go_sem],by simp[go_sem],by simp[go_sem],by simp[go_sem],by simp[go_sem],by simp[go_sem],by simp[go_sem],by simp[go_sem]⟩
 have HN:Hid (FBox V (w.heap.size+1) (.bool d) (.slice a5 l5 c5) (.slice a6 l6 c6)):=by rw[hV];exact⟨by simp[go_sem],by simp[go_sem],by simp[go_sem],by simp[go_sem],by simp[go_sem],by simp[go_sem]⟩
 have HR:Hid (FBox V (w.heap.size+2) (.bool false) (.slice none 0 0) (.slice none 0 0)):=by rw[hV];exact⟨by simp[go_sem],by simp[go_sem],by simp[go_sem],by simp[go_sem],by simp[go_sem],by simp[go_sem]⟩
 have HB:Hid (Bw w V):=by rw[hV];exact(bA.alloc (by simp) _).alloc (by simp;omega) _
 have HV:=zAb hV;have HQ:=zAb (qmul _ _ x p k V (hz.later (un HB)) (hx.later (un HB)) (by omega));clear hV hx hz;go_enter Tryz.func181,Tryz.ntmps181
 go_upto_region 1 with fail
 rw[←un HV];clear HV;have t0:=(un HU).c0;have t1:=(un HU).c1;have t2:=(un HU).c2;have s0:=(un HN).c0;have s1:=(un HN).c1;have s2:=(un HN).c2
 go_wp2_with (go_at_call 65;go_must(refine(un HQ).mono ?_;rintro e w1 ⟨v1,rfl,hv1,hb1⟩;obtain⟨b1,i1,i2,i3,i4,i5,i6,rfl⟩:=hv1.form;have HV1:=zAb hv1;have HR1:=zAb ((un HR).later hb1);have HBW:Hid (Bw w w1):=bt HB hb1;clear hv1 hb1 t0 t1 t2 s0 s1 s2;have r0:=(un HR1).c0;have r1:=(un HR1).c1;have r2:=(un HR1).c2;have rf0:=(un HR1).f0;have rf1:=(un HR1).f1;have rf2:=(un HR1).f2))
 have hS:=(un HR1).store (.bool b1) (.slice i1 i2 i3) (.slice i4 i5 i6);have u0:=hS.c0;have u1:=hS.c1;have u2:=hS.c2;exact bodyPost_ret (v:=.agg #[.bool b1,.slice i1 i2 i3,.slice i4 i5 i6]) (w:=zAs w1 (w.heap.size+2) (.bool b1) (.slice i1 i2 i3) (.slice i4 i5 i6)) (by simp[results,Tryz.results181,go_sem,u0,u1,u2]) rfl ⟨_,rfl,(un HV1).stored (un HR1),zAq (un HBW) (by omega) _ _ _⟩
theorem count_any (ux z:Value) (p x:Rat) (k:Nat) (w:World) (b c d:Bool) (a1 a2 a3 a4 a5 a6:Option Addr) (l1 c1 l2 c2 l3 c3 l4 c4 l5 c5 l6 c6:Nat) (hux:ux=.agg #[.bool b,.slice a1 l1 c1,.slice a2 l2 c2]) (hzz:z=.agg #[.bool d,.slice a5 l5 c5,.slice a6 l6 c6]) (hx:QOf w ux p k) (hz:QOf w z x k) (hk:k+k≤100000) (hp0:p≠0) :
  Calls Tryz.prog 115 #[.agg #[.bool b,.slice a1 l1 c1,.slice a2 l2 c2,.bool c,.slice a3 l3 c3,.slice a4 l4 c4],z] w fun r w'=>∃v,r=.returned v∧QOf w' v (x*p⁻¹) (k+k)∧Bw w w':=by
 subst hux hzz;obtain⟨V,hV⟩:∃V,V=((w.alloc (.cells #[.bool b,.slice a1 l1 c1,.slice a2 l2 c2,.bool c,.slice a3 l3 c3,.slice a4 l4 c4] 84)).alloc (.cells #[.bool d,.slice a5 l5 c5,.slice a6 l6 c6] 82)).alloc (.cells #[.bool false,.slice none 0 0,.slice none 0 0] 82):=⟨_,rfl⟩;have HU:Hid (T6 V w.heap.size (.bool b) (.slice a1 l1 c1) (.slice a2 l2 c2) (.bool c) (.slice a3 l3 c3) (.slice a4 l4 c4)):=by rw[hV];exact⟨by simp[go_sem],by simp[go_sem],by simp[go_sem],by simp[go_sem],by simp[go_sem],by simp[go_sem],by simp[go_sem],by simp[go_sem],by simp[go_sem],by simp[go_sem],by simp[go_sem],by simp[go_sem]⟩
 have HN:Hid (FBox V (w.heap.size+1) (.bool d) (.slice a5 l5 c5) (.slice a6 l6 c6)):=by rw[hV];exact⟨by simp[go_sem],by simp[go_sem],by simp[go_sem],by simp[go_sem],by simp[go_sem],by simp[go_sem]⟩
 have HR:Hid (FBox V (w.heap.size+2) (.bool false) (.slice none 0 0) (.slice none 0 0)):=by rw[hV];exact⟨by simp[go_sem],by simp[go_sem],by simp[go_sem],by simp[go_sem],by simp[go_sem],by simp[go_sem]⟩
 have HB:Hid (Bw w V):=by rw[hV];exact(bA.alloc (by simp) _).alloc (by simp;omega) _
 have HV:=zAb hV;have HQ:=zAb (qquo _ _ x p k V (hz.later (un HB)) (hx.later (un HB)) (by omega) hp0);clear hV hx hz;go_enter Tryz.func115,Tryz.ntmps115
 go_upto_region 1 with fail
 rw[←un HV];clear HV;have t0:=(un HU).c0;have t1:=(un HU).c1;have t2:=(un HU).c2;have s0:=(un HN).c0;have s1:=(un HN).c1;have s2:=(un HN).c2
 go_wp2_with (go_at_call 69;go_must(refine(un HQ).mono ?_;rintro e w1 ⟨v1,rfl,hv1,hb1⟩;obtain⟨b1,i1,i2,i3,i4,i5,i6,rfl⟩:=hv1.form;have HV1:=zAb hv1;have HR1:=zAb ((un HR).later hb1);have HBW:Hid (Bw w w1):=bt HB hb1;clear hv1 hb1 t0 t1 t2 s0 s1 s2;have r0:=(un HR1).c0;have r1:=(un HR1).c1;have r2:=(un HR1).c2;have rf0:=(un HR1).f0;have rf1:=(un HR1).f1;have rf2:=(un HR1).f2))
 have hS:=(un HR1).store (.bool b1) (.slice i1 i2 i3) (.slice i4 i5 i6);have u0:=hS.c0;have u1:=hS.c1;have u2:=hS.c2;exact bodyPost_ret (v:=.agg #[.bool b1,.slice i1 i2 i3,.slice i4 i5 i6]) (w:=zAs w1 (w.heap.size+2) (.bool b1) (.slice i1 i2 i3) (.slice i4 i5 i6)) (by simp[results,Tryz.results115,go_sem,u0,u1,u2]) rfl ⟨_,rfl,(un HV1).stored (un HR1),zAq (un HBW) (by omega) _ _ _⟩
theorem kelvins_any (ux uy z:Value) (p q x:Rat) (k:Nat) (w:World) (b c d:Bool) (a1 a2 a3 a4 a5 a6:Option Addr) (l1 c1 l2 c2 l3 c3 l4 c4 l5 c5 l6 c6:Nat) (hux:ux=.agg #[.bool b,.slice a1 l1 c1,.slice a2 l2 c2]) (huy:uy=.agg #[.bool c,.slice a3 l3 c3,.slice a4 l4 c4]) (hzz:z=.agg #[.bool d,.slice a5 l5 c5,.slice a6 l6 c6]) (hx:QOf w ux p k) (hy:QOf w uy q k) (hz:QOf w z x k) (hk:10*k≤100000) :
  Calls Tryz.prog 111 #[.agg #[.bool b,.slice a1 l1 c1,.slice a2 l2 c2,.bool c,.slice a3 l3 c3,.slice a4 l4 c4],z] w fun r w'=>∃v,r=.returned v∧QOf w' v (x*p+q) (k+k+(k+k)+(k+k))∧Bw w w':=by
 subst hux huy hzz;obtain⟨V,hV⟩:∃V,V=((w.alloc (.cells #[.bool b,.slice a1 l1 c1,.slice a2 l2 c2,.bool c,.slice a3 l3 c3,.slice a4 l4 c4] 84)).alloc (.cells #[.bool d,.slice a5 l5 c5,.slice a6 l6 c6] 82)).alloc (.cells #[.bool false,.slice none 0 0,.slice none 0 0] 82):=⟨_,rfl⟩;have HU:Hid (T6 V w.heap.size (.bool b) (.slice a1 l1 c1) (.slice a2 l2 c2) (.bool c) (.slice a3 l3 c3) (.slice a4 l4 c4)):=by rw[hV];exact⟨by simp[go_sem],by simp[go_sem],by simp[go_sem],by simp[go_sem],by simp[go_sem],by simp[go_sem],by simp[go_sem],by simp[go_sem],by simp[go_sem],by simp[go_sem],by simp[go_sem],by simp[go_sem]⟩
 have HN:Hid (FBox V (w.heap.size+1) (.bool d) (.slice a5 l5 c5) (.slice a6 l6 c6)):=by rw[hV];exact⟨by simp[go_sem],by simp[go_sem],by simp[go_sem],by simp[go_sem],by simp[go_sem],by simp[go_sem]⟩
 have HR:Hid (FBox V (w.heap.size+2) (.bool false) (.slice none 0 0) (.slice none 0 0)):=by rw[hV];exact⟨by simp[go_sem],by simp[go_sem],by simp[go_sem],by simp[go_sem],by simp[go_sem],by simp[go_sem]⟩
 have HB:Hid (Bw w V):=by rw[hV];exact(bA.alloc (by simp) _).alloc (by simp;omega) _
 have HV:=zAb hV;have HX:=zAb hx;have HY:=zAb hy;have HZ:=zAb hz;clear hV hx hy hz;go_enter Tryz.func111,Tryz.ntmps111
 go_upto_region 1 with fail
 rw[←un HV];clear HV
 have HS:Hid (∀W,Below V.heap.size V W→W.cell? ⟨w.heap.size,0,none⟩=some (.bool b)∧W.cell? ⟨w.heap.size,1,none⟩=some (.slice a1 l1 c1)∧W.cell? ⟨w.heap.size,2,none⟩=some (.slice a2 l2 c2)∧W.cell? ⟨w.heap.size,3,none⟩=some (.bool c)∧W.cell? ⟨w.heap.size,4,none⟩=some (.slice a3 l3 c3)∧W.cell? ⟨w.heap.size,5,none⟩=some (.slice a4 l4 c4)∧W.cell? ⟨w.heap.size+1,0,none⟩=some (.bool d)∧W.cell? ⟨w.heap.size+1,1,none⟩=some (.slice a5 l5 c5)∧W.cell? ⟨w.heap.size+1,2,none⟩=some (.slice a6 l6 c6)):=fun W hb=>by
  have h1:=(un HU).later hb;have h2:=(un HN).later hb;exact⟨h1.c0,h1.c1,h1.c2,h1.c3,h1.c4,h1.c5,h2.c0,h2.c1,h2.c2⟩
 have HS0:=zAb (un HS V.drew ((Below.refl _ _).drew));have HD:Hid (Bw w V.drew):=(un HB).trans ((Below.refl _ _).drew.mono (un HB).size);refine zAi 6 (fun W=>W.cell? ⟨w.heap.size,0,none⟩=some (.bool b)∧W.cell? ⟨w.heap.size,1,none⟩=some (.slice a1 l1 c1)∧W.cell? ⟨w.heap.size,2,none⟩=some (.slice a2 l2 c2)∧W.cell? ⟨w.heap.size,3,none⟩=some (.bool c)∧W.cell? ⟨w.heap.size,4,none⟩=some (.slice a3 l3 c3)∧W.cell? ⟨w.heap.size,5,none⟩=some (.slice a4 l4 c4)∧W.cell? ⟨w.heap.size+1,0,none⟩=some (.bool d)∧W.cell? ⟨w.heap.size+1,1,none⟩=some (.slice a5 l5 c5)∧W.cell? ⟨w.heap.size+1,2,none⟩=some (.slice a6 l6 c6)) (fun _=>True) 7 rfl (by kernel_rfl) ?_;refine wT 0 (.agg #[.bool b,.slice a1 l1 c1,.slice a2 l2 c2,.bool c,.slice a3 l3 c3,.slice a4 l4 c4]) rfl (Or.inl ⟨by rfl,?_⟩) ⟨un HS0,trivial⟩ ?_
 ·intro W hW
  go_split_ands
  go_simp
 refine wT 1 (.agg #[.bool d,.slice a5 l5 c5,.slice a6 l6 c6]) rfl (Or.inl ⟨by rfl,?_⟩) ⟨un HS0,trivial⟩ ?_
 ·intro W hW
  go_split_ands
  go_simp
 refine wT 3 (.pointer (some ⟨w.heap.size,3,none⟩)) rfl (Or.inl ⟨by rfl,?_⟩) ⟨un HS0,trivial⟩ ?_
 ·intro W hW
  go_split_ands
  go_simp
 refine wT 4 (.agg #[.bool c,.slice a3 l3 c3,.slice a4 l4 c4]) rfl (Or.inl ⟨by rfl,?_⟩) ⟨un HS0,trivial⟩ ?_
 ·intro W hW
  go_split_ands
  go_simp
 refine wO 2 rfl rfl (fun K hK=>?_)
 go_simp
 refine(steps_any _ _ p x k _ b c d a1 a2 a3 a4 a5 a6 l1 c1 l2 c2 l3 c3 l4 c4 l5 c5 l6 c6 rfl rfl ((un HX).later (un HD)) ((un HZ).later (un HD)) (by omega)).mono ?_;rintro e wa ⟨va,rfl,hva,hba⟩;obtain⟨b7,j1,j2,j3,j4,j5,j6,rfl⟩:=hva.form;have HBA:Hid (Bw V wa):=(Below.refl _ _).drew.trans (hba.mono (Below.refl V.heap.size V).drew.size);have HSA:=zAb (un HS wa (un HBA));have HVA:=zAb hva;have HBWA:Hid (Bw w wa):=(un HB).trans ((un HBA).mono (un HB).size);clear hba hva;refine hK _ _ ⟨un HSA,trivial⟩ ?_;clear hK K;refine wO 5 rfl rfl (fun K hK=>?_)
 go_simp
 refine(qadd _ _ (x*p) q (k+k) _ (un HVA) (((un HY).later (un HBWA)).mono (by omega)) (by omega)).mono ?_;rintro e w1 ⟨v1,rfl,hv1,hb1⟩;obtain⟨b1,i1,i2,i3,i4,i5,i6,rfl⟩:=hv1.form;have HBT:Hid (Bw V w1):=bt HBA hb1;have HST:=zAb (un HS w1 (un HBT));have HV1:=zAb hv1;have HR1:=zAb ((un HR).later (un HBT));have HBW:Hid (Bw w w1):=(un HB).trans ((un HBT).mono (un HB).size);clear hb1 hv1;have r0:=(un HR1).c0;have r1:=(un HR1).c1;have r2:=(un HR1).c2;have rf0:=(un HR1).f0;have rf1:=(un HR1).f1;have rf2:=(un HR1).f2;refine hK _ _ ⟨un HST,trivial⟩ ?_;clear hK K;refine wL 6 rfl rfl (fun K hK=>?_)
 go_simp
 refine hK _ _ trivial ?_;clear hK K;refine wDn ?_
 go_wp2_with fail
 have hS:=(un HR1).store (.bool b1) (.slice i1 i2 i3) (.slice i4 i5 i6);have u0:=hS.c0;have u1:=hS.c1;have u2:=hS.c2;exact bodyPost_ret (v:=.agg #[.bool b1,.slice i1 i2 i3,.slice i4 i5 i6]) (w:=zAs w1 (w.heap.size+2) (.bool b1) (.slice i1 i2 i3) (.slice i4 i5 i6)) (by simp[results,Tryz.results111,go_sem,u0,u1,u2]) rfl ⟨_,rfl,(un HV1).stored (un HR1),zAq (un HBW) (by omega) _ _ _⟩
theorem mark_any (ux uy z:Value) (p q x:Rat) (k:Nat) (w:World) (b c d:Bool) (a1 a2 a3 a4 a5 a6:Option Addr) (l1 c1 l2 c2 l3 c3 l4 c4 l5 c5 l6 c6:Nat) (hux:ux=.agg #[.bool b,.slice a1 l1 c1,.slice a2 l2 c2]) (huy:uy=.agg #[.bool c,.slice a3 l3 c3,.slice a4 l4 c4]) (hzz:z=.agg #[.bool d,.slice a5 l5 c5,.slice a6 l6 c6]) (hx:QOf w ux p k) (hy:QOf w uy q k) (hz:QOf w z x k) (hk:10*k≤100000) (hp0:p≠0) :
  Calls Tryz.prog 52 #[.agg #[.bool b,.slice a1 l1 c1,.slice a2 l2 c2,.bool c,.slice a3 l3 c3,.slice a4 l4 c4],z] w fun r w'=>∃v,r=.returned v∧QOf w' v ((x + -q)*p⁻¹) (k+k+k+(k+k+k))∧Bw w w':=by
 subst hux huy hzz;obtain⟨V,hV⟩:∃V,V=((w.alloc (.cells #[.bool b,.slice a1 l1 c1,.slice a2 l2 c2,.bool c,.slice a3 l3 c3,.slice a4 l4 c4] 84)).alloc (.cells #[.bool d,.slice a5 l5 c5,.slice a6 l6 c6] 82)).alloc (.cells #[.bool false,.slice none 0 0,.slice none 0 0] 82):=⟨_,rfl⟩;have HU:Hid (T6 V w.heap.size (.bool b) (.slice a1 l1 c1) (.slice a2 l2 c2) (.bool c) (.slice a3 l3 c3) (.slice a4 l4 c4)):=by rw[hV];exact⟨by simp[go_sem],by simp[go_sem],by simp[go_sem],by simp[go_sem],by simp[go_sem],by simp[go_sem],by simp[go_sem],by simp[go_sem],by simp[go_sem],by simp[go_sem],by simp[go_sem],by simp[go_sem]⟩
 have HN:Hid (FBox V (w.heap.size+1) (.bool d) (.slice a5 l5 c5) (.slice a6 l6 c6)):=by rw[hV];exact⟨by simp[go_sem],by simp[go_sem],by simp[go_sem],by simp[go_sem],by simp[go_sem],by simp[go_sem]⟩
 have HR:Hid (FBox V (w.heap.size+2) (.bool false) (.slice none 0 0) (.slice none 0 0)):=by rw[hV];exact⟨by simp[go_sem],by simp[go_sem],by simp[go_sem],by simp[go_sem],by simp[go_sem],by simp[go_sem]⟩
 have HB:Hid (Bw w V):=by rw[hV];exact(bA.alloc (by simp) _).alloc (by simp;omega) _
 have HV:=zAb hV;have HX:=zAb hx;have HY:=zAb hy;have HZ:=zAb hz;clear hV hx hy hz;go_enter Tryz.func52,Tryz.ntmps52
 go_upto_region 1 with fail
 rw[←un HV];clear HV
 have HS:Hid (∀W,Below V.heap.size V W→W.cell? ⟨w.heap.size,0,none⟩=some (.bool b)∧W.cell? ⟨w.heap.size,1,none⟩=some (.slice a1 l1 c1)∧W.cell? ⟨w.heap.size,2,none⟩=some (.slice a2 l2 c2)∧W.cell? ⟨w.heap.size,3,none⟩=some (.bool c)∧W.cell? ⟨w.heap.size,4,none⟩=some (.slice a3 l3 c3)∧W.cell? ⟨w.heap.size,5,none⟩=some (.slice a4 l4 c4)∧W.cell? ⟨w.heap.size+1,0,none⟩=some (.bool d)∧W.cell? ⟨w.heap.size+1,1,none⟩=some (.slice a5 l5 c5)∧W.cell? ⟨w.heap.size+1,2,none⟩=some (.slice a6 l6 c6)):=fun W hb=>by
  have h1:=(un HU).later hb;have h2:=(un HN).later hb;exact⟨h1.c0,h1.c1,h1.c2,h1.c3,h1.c4,h1.c5,h2.c0,h2.c1,h2.c2⟩
 have HS0:=zAb (un HS V.drew ((Below.refl _ _).drew));have HD:Hid (Bw w V.drew):=(un HB).trans ((Below.refl _ _).drew.mono (un HB).size);refine zAi 6 (fun W=>W.cell? ⟨w.heap.size,0,none⟩=some (.bool b)∧W.cell? ⟨w.heap.size,1,none⟩=some (.slice a1 l1 c1)∧W.cell? ⟨w.heap.size,2,none⟩=some (.slice a2 l2 c2)∧W.cell? ⟨w.heap.size,3,none⟩=some (.bool c)∧W.cell? ⟨w.heap.size,4,none⟩=some (.slice a3 l3 c3)∧W.cell? ⟨w.heap.size,5,none⟩=some (.slice a4 l4 c4)∧W.cell? ⟨w.heap.size+1,0,none⟩=some (.bool d)∧W.cell? ⟨w.heap.size+1,1,none⟩=some (.slice a5 l5 c5)∧W.cell? ⟨w.heap.size+1,2,none⟩=some (.slice a6 l6 c6)) (fun _=>True) 7 rfl (by kernel_rfl) ?_;refine wT 0 (.agg #[.bool b,.slice a1 l1 c1,.slice a2 l2 c2,.bool c,.slice a3 l3 c3,.slice a4 l4 c4]) rfl (Or.inl ⟨by rfl,?_⟩) ⟨un HS0,trivial⟩ ?_
 ·intro W hW
  go_split_ands
  go_simp
 refine wT 1 (.agg #[.bool d,.slice a5 l5 c5,.slice a6 l6 c6]) rfl (Or.inl ⟨by rfl,?_⟩) ⟨un HS0,trivial⟩ ?_
 ·intro W hW
  go_split_ands
  go_simp
 refine wT 2 (.pointer (some ⟨w.heap.size,3,none⟩)) rfl (Or.inl ⟨by rfl,?_⟩) ⟨un HS0,trivial⟩ ?_
 ·intro W hW
  go_split_ands
  go_simp
 refine wT 3 (.agg #[.bool c,.slice a3 l3 c3,.slice a4 l4 c4]) rfl (Or.inl ⟨by rfl,?_⟩) ⟨un HS0,trivial⟩ ?_
 ·intro W hW
  go_split_ands
  go_simp
 refine wO 4 rfl rfl (fun K hK=>?_)
 go_simp
 refine(qsub _ _ x q k _ ((un HZ).later (un HD)) ((un HY).later (un HD)) (by omega)).mono ?_;rintro e wa ⟨va,rfl,hva,hba⟩;obtain⟨b7,j1,j2,j3,j4,j5,j6,rfl⟩:=hva.form;have HBA:Hid (Bw V wa):=(Below.refl _ _).drew.trans (hba.mono (Below.refl V.heap.size V).drew.size);have HSA:=zAb (un HS wa (un HBA));have HVA:=zAb hva;have HBWA:Hid (Bw w wa):=(un HB).trans ((un HBA).mono (un HB).size);clear hba hva;refine hK _ _ ⟨un HSA,trivial⟩ ?_;clear hK K;refine wO 5 rfl rfl (fun K hK=>?_)
 go_simp
 refine(count_any _ _ p (x + -q) (k+k+k) _ b c b7 a1 a2 a3 a4 j1 j4 l1 c1 l2 c2 l3 c3 l4 c4 j2 j3 j5 j6 rfl rfl (((un HX).later (un HBWA)).mono (by omega)) (un HVA) (by omega) hp0).mono ?_;rintro e w1 ⟨v1,rfl,hv1,hb1⟩;obtain⟨b1,i1,i2,i3,i4,i5,i6,rfl⟩:=hv1.form;have HBT:Hid (Bw V w1):=bt HBA hb1;have HST:=zAb (un HS w1 (un HBT));have HV1:=zAb hv1;have HR1:=zAb ((un HR).later (un HBT));have HBW:Hid (Bw w w1):=(un HB).trans ((un HBT).mono (un HB).size);clear hb1 hv1;have r0:=(un HR1).c0;have r1:=(un HR1).c1;have r2:=(un HR1).c2;have rf0:=(un HR1).f0;have rf1:=(un HR1).f1;have rf2:=(un HR1).f2;refine hK _ _ ⟨un HST,trivial⟩ ?_;clear hK K;refine wL 6 rfl rfl (fun K hK=>?_)
 go_simp
 refine hK _ _ trivial ?_;clear hK K;refine wDn ?_
 go_wp2_with fail
 have hS:=(un HR1).store (.bool b1) (.slice i1 i2 i3) (.slice i4 i5 i6);have u0:=hS.c0;have u1:=hS.c1;have u2:=hS.c2;exact bodyPost_ret (v:=.agg #[.bool b1,.slice i1 i2 i3,.slice i4 i5 i6]) (w:=zAs w1 (w.heap.size+2) (.bool b1) (.slice i1 i2 i3) (.slice i4 i5 i6)) (by simp[results,Tryz.results52,go_sem,u0,u1,u2]) rfl ⟨_,rfl,(un HV1).stored (un HR1),zAq (un HBW) (by omega) _ _ _⟩
structure Sc where
 nm:ByteArray
 sy:ByteArray
 f:Nat
 a:Nat
 b:Nat
 c:Nat
 d:Nat
def sct:Nat→Sc
 | 0=>⟨⟨#[114,97,110,107,105,110,101]⟩,⟨#[194,176,82]⟩,106,5,9,0,1⟩
 | 1=>⟨⟨#[99,101,108,115,105,117,115]⟩,⟨#[194,176,67]⟩,107,1,1,27315,100⟩
 | 2=>⟨⟨#[102,97,104,114,101,110,104,101,105,116]⟩,⟨#[194,176,70]⟩,108,5,9,229835,900⟩
 | _=>⟨⟨#[107,101,108,118,105,110]⟩,⟨#[75]⟩,114,1,1,0,1⟩
theorem made_sc:∀k,k<4→MadeS (sct k).f (sct k).a (sct k).b (sct k).c (sct k).d
 | 0,_=>rankine_made
 | 1,_=>celsius_made
 | 2,_=>fahrenheit_made
 | 3,_=>zGv
 | n+4,h=>absurd h (by omega)
theorem enter_sc:∀k,k<4→∀W,(callFunc (sct k).f #[]).run Tryz.prog W=.ok (.enter (sct k).f #[]) W
 | 0,_,W=>by kernel_rfl
 | 1,_,W=>by kernel_rfl
 | 2,_,W=>by kernel_rfl
 | 3,_,W=>by kernel_rfl
 | n+4,h,_=>absurd h (by omega)
structure R3 (W:World) (g k:Nat):Prop where
 c0:W.cell? ⟨g,k*3,none⟩=some (.string (sct k).nm)
 c1:W.cell? ⟨g,k*3+1,none⟩=some (.string (sct k).sy)
 c2:W.cell? ⟨g,k*3+2,none⟩=some (.func (.func (sct k).f) #[] #[])
theorem R3.later {W V:World} {B g k:Nat} (h:R3 W g k) (hb:Below B W V) (hg:g<B):R3 V g k :=
 ⟨(hb.cell (p:=⟨g,k*3,none⟩) hg).trans h.c0,(hb.cell (p:=⟨g,k*3+1,none⟩) hg).trans h.c1,(hb.cell (p:=⟨g,k*3+2,none⟩) hg).trans h.c2⟩
def rows3:Array Value:=#[G #[114,97,110,107,105,110,101],G #[194,176,82],.func (.func 106) #[] #[],G #[99,101,108,115,105,117,115],G #[194,176,67],.func (.func 107) #[] #[],G #[102,97,104,114,101,110,104,101,105,116],G #[194,176,70],.func (.func 108) #[] #[]]
theorem zEm (w:World):Calls Tryz.prog 43 #[] w fun r w'=>r=.returned (.slice (some ⟨w.heap.size,0,none⟩) 3 3)∧w'=w.alloc (.cells rows3 69):=by
 go_enter Tryz.func43,Tryz.ntmps43
 go_wp2
 go_ret
 exact⟨rfl,rfl⟩
def zGj (s nm sy:ByteArray):Bool:=nm.toList == s.toList || sy.toList == s.toList
theorem zEe (nm sy:ByteArray) (fv:Value) (s:ByteArray) (b:Nat) (w:World) (hb:w.cell? ⟨b,0,none⟩=some (.string s)) (hlt:b<w.heap.size):Calls Tryz.prog 113 #[.agg #[.string nm,.string sy,fv],.pointer (some ⟨b,0,none⟩)] w fun r w'=>r=.returned (.bool (zGj s nm sy))∧Bw w w':=by
 unfold zGj;go_enter Tryz.func113,Tryz.ntmps113
 go_wp2_with fail
 all_goals
  go_ret
  refine⟨?_,bA⟩
  first|rfl|(simp[*];done)|(simp_all;done)
def scB (s:ByteArray) (k:Nat):Bool:=zGj s (sct k).nm (sct k).sy
def zBc (p:Nat→Bool) (j:Int):Prop:=(∃k:Nat,k<4∧j=(k:Int)∧p k=true∧∀i,i<k→p i=false)∨(j=-1∧∀i,i<4→p i=false)
theorem zEw {p:Nat→Bool} {k:Nat} (h:∀i,i<k→p i=false) (hk:p k=false):∀i,i<k+1→p i=false:=fun i hi=>by
 by_cases e:i=k
 ·rw[e];exact hk
 ·exact h i (by omega)
theorem zFz (s:ByteArray) (g cap b:Nat) (w:World) (hr:∀k,k<4→R3 w g k) (hg:g<w.heap.size) (hb:w.cell? ⟨b,0,none⟩=some (.string s)) (hlt:b<w.heap.size) :
 Calls Tryz.prog 112 #[.slice (some ⟨g,0,none⟩) 4 cap,.func (.func 113) #[] #[.pointer (some ⟨b,0,none⟩)]] w fun r w'=>∃j:Int,r=.returned (I j)∧zBc (scB s) j∧Bw w w':=by
 have HR:=zAb hr;have HBC:=zAb hb;clear hr hb;go_enter Tryz.func112,Tryz.ntmps112
 go_wp2_with fail
 go_loopw [8] (fun s8 wr=>∃(k:Nat),k≤4∧s8=I (k:Int)∧Hid (∀i,i<k→scB s i=false)∧Hid (Bw w wr)) (fun s8 _=>4 - (intOf s8).toNat)
 case atStart=>exact⟨0,by omega,rfl,fun i hi=>absurd hi (by omega),Below.refl _ _⟩
 case round=>
  obtain⟨k,hk,rfl,HN,HB⟩:=hrel
  by_cases hk4:k<4
  ·have hkI:(k:Int)<4:=by omega
   have hk0:(0:Int)≤(k:Int):=by omega
   have hrow:=(un HR k hk4).later (un HB) hg;have c0:=hrow.c0;have c1:=hrow.c1;have c2:=hrow.c2;clear hrow
   have HC:Hid (∀W,Below wr.heap.size wr W→Calls Tryz.prog 113 #[.agg #[.string (sct k).nm,.string (sct k).sy,.func (.func (sct k).f) #[] #[]],.pointer (some ⟨b,0,none⟩)] W fun r w'=>r=.returned (.bool (scB s k))∧Bw W w'):=fun W hW=>
    zEe _ _ _ s b W ((bt HB hW).cell (p:=⟨b,0,none⟩) hlt |>.trans (un HBC)) (Nat.lt_of_lt_of_le hlt ((bt HB hW).size))
   have HNK:=zAb (fun (e:scB s k=false)=>zEw (un HN) e);have HYK:=zAb (fun (e:scB s k=true)=>(Or.inl ⟨k,hk4,rfl,e,un HN⟩:zBc (scB s) (k:Int)));generalize (sct k).nm=nm at *
   generalize (sct k).sy=sy at *
   generalize (sct k).f=f at *
   by_cases hB:scB s k=true
   ·have HJ:=zAb (un HYK hB)
    rw[hB]at HC;clear HNK HYK hB
    go_wp2_with (go_at_call 113;go_must(refine(un HC _ (Below.refl _ _)).mono ?_;rintro e wt ⟨rfl,hbt⟩;have HBT:=zAb hbt;clear hbt))
    go_ret
    exact⟨_,rfl,un HJ,(un HB).trans ((un HBT).mono (un HB).size)⟩
   ·have hB':scB s k=false:=by simpa using hB
    have HJ:=zAb (un HNK hB');rw[hB']at HC;clear HNK HYK hB hB'
    go_wp2_with (go_at_call 113;go_must(refine(un HC _ (Below.refl _ _)).mono ?_;rintro e wt ⟨rfl,hbt⟩;have HBT:=zAb hbt;clear hbt))
    go_roundw
    case rel=>exact⟨k+1,by omega,by go_num,HJ,(un HB).trans ((un HBT).mono (un HB).size)⟩
    case measure=>simp[intOf];omega
  ·have hkI:¬(k:Int)<4:=by omega
   go_wp2_with fail
   go_ret
   exact⟨-1,rfl,Or.inr ⟨rfl,fun i hi=>un HN i (by omega)⟩,un HB⟩
theorem find_any (s:ByteArray) (g cap:Nat) (w:World) (hr:∀k,k<4→R3 w g k) (hg:g<w.heap.size) :
 Calls Tryz.prog 48 #[.string s,.slice (some ⟨g,0,none⟩) 4 cap] w fun r w'=>((∃k:Nat,k<4∧r=.returned (.tuple #[.agg #[.string (sct k).nm,.string (sct k).sy,.func (.func (sct k).f) #[] #[]],.bool true])∧zBc (scB s) (k:Int))∨(r=.returned (.tuple #[.agg #[G #[],G #[],.nilFunc],.bool false])∧zBc (scB s) (-1)))∧Bw w w':=by
 obtain⟨V,hV⟩:∃V,V=(w.alloc (.cells #[.string s] 9)).alloc (.cells #[G #[],G #[],.nilFunc] 69):=⟨_,rfl⟩;have HBX:Hid (V.cell? ⟨w.heap.size,0,none⟩=some (.string s)∧w.heap.size<V.heap.size):=by rw[hV];exact⟨by simp[go_sem],by simp;omega⟩
 have HZ:Hid (FBox V (w.heap.size+1) (G #[]) (G #[]) (.nilFunc)):=by rw[hV];exact⟨by simp[go_sem],by simp[go_sem],by simp[go_sem],by simp[go_sem],by simp[go_sem],by simp[go_sem]⟩
 have HB:Hid (Bw w V):=by rw[hV];exact bA.alloc (by simp) _
 have HR:=zAb (fun k hk=>(hr k hk).later (un HB) hg);have HG:Hid (g<V.heap.size):=Nat.lt_of_lt_of_le hg (un HB).size;have HV:=zAb hV;have HIX:=zAb (zFz s g cap w.heap.size V (un HR) (un HG) (un HBX).1 (un HBX).2);clear hV hr;go_enter Tryz.func48,Tryz.ntmps48
 go_upto_region 1 with fail
 rw[←un HV];clear HV;have t0:=(un HBX).1
 go_upto_region 2 with (go_at_call 112;go_must(refine(un HIX).mono ?_;rintro e w1 ⟨j,rfl,hj,hb1⟩;have HJ:=zAb hj;have HB1:=zAb hb1;clear hj hb1 t0))
 have HZ1:=zAb ((un HZ).later (un HB1));have HBW:Hid (Bw w w1):=(un HB).trans ((un HB1).mono (un HB).size);have z0:=(un HZ1).c0;have z1:=(un HZ1).c1;have z2:=(un HZ1).c2;have f0:=(un HZ1).f0;have f1:=(un HZ1).f1;have f2:=(un HZ1).f2;rcases un HJ with ⟨k,hk,rfl,hk1,hk2⟩|⟨rfl,hn⟩
 ·have hk0:(0:Int)≤(k:Int):=by omega
  have hkI:(k:Int)<4:=by omega
  have hrow:=(un HR k hk).later (un HB1) (un HG);have c0:=hrow.c0;have c1:=hrow.c1;have c2:=hrow.c2;have HOUT:Hid (∀w',Below w.heap.size w w'→(((∃k':Nat,k'<4∧Ending.returned (.tuple #[.agg #[.string (sct k).nm,.string (sct k).sy,.func (.func (sct k).f) #[] #[]],.bool true])=.returned (.tuple #[.agg #[.string (sct k').nm,.string (sct k').sy,.func (.func (sct k').f) #[] #[]],.bool true])∧zBc (scB s) (k':Int))∨(Ending.returned (.tuple #[.agg #[.string (sct k).nm,.string (sct k).sy,.func (.func (sct k).f) #[] #[]],.bool true])=.returned (.tuple #[.agg #[G #[],G #[],.nilFunc],.bool false])∧zBc (scB s) (-1)))∧Bw w w')):=fun w' hb=>⟨Or.inl ⟨k,hk,rfl,Or.inl ⟨k,hk,rfl,hk1,hk2⟩⟩,hb⟩
  clear hrow hk1 hk2;generalize (sct k).nm=nm at c0 c1 c2 HOUT
  generalize (sct k).sy=sy at c0 c1 c2 HOUT
  generalize (sct k).f=f at c0 c1 c2 HOUT
  go_wp2_with fail
  have hS:=(un HZ1).store (.string nm) (.string sy) (.func (.func f) #[] #[]);have v0:=hS.c0;have v1:=hS.c1;have v2:=hS.c2;exact bodyPost_ret (v:=.tuple #[.agg #[.string nm,.string sy,.func (.func f) #[] #[]],.bool true]) (w:=zAs w1 (w.heap.size+1) (.string nm) (.string sy) (.func (.func f) #[] #[])) (by simp[results,Tryz.results48,go_sem,v0,v1,v2]) rfl (un HOUT _ (zAq (un HBW) (Nat.le_succ _) _ _ _))
 ·go_wp2_with fail
  have hS:=(un HZ1).store (G #[]) (G #[]) (.nilFunc);have v0:=hS.c0;have v1:=hS.c1;have v2:=hS.c2;exact bodyPost_ret (v:=.tuple #[.agg #[G #[],G #[],.nilFunc],.bool false]) (w:=zAs w1 (w.heap.size+1) (G #[]) (G #[]) (.nilFunc)) (by simp[results,Tryz.results48,go_sem,v0,v1,v2]) rfl ⟨Or.inr ⟨rfl,Or.inr ⟨rfl,hn⟩⟩,zAq (un HBW) (Nat.le_succ _) _ _ _⟩
end Go.Proofs.YtliadckofhblnaaGreatDoor.Tm

/- The base units told, the others. -/
import Derived.Test.YtliadckofhblnaaGreatDoorLimb3
import Derived.Test.YtliadckofhblnaaGreatDoorPower
import Derived.Test.YtliadckofhblnaaGreatDoorMid
import Derived.Test.YtliadckofhblnaaGreatDoorJoule
set_option maxHeartbeats 4000000
set_option maxRecDepth 100000
namespace Go.Proofs.YtliadckofhblnaaGreatDoor
open Go.RowKit
abbrev z15:Array Value:=#[G #[],G #[],I 0,I 0,I 0,I 0,I 0,I 0,I 0,I 0,G #[],G #[],G #[],G #[],I 0]
theorem err_of {s t:ByteArray} {x:Rat} (h:IsR s t x):zHa x=0:=by
 unfold zHa;rw[if_pos h.1]
theorem zFb {f:Nat} {args:Array Value} {w:World} {x y:Rat} {s t:ByteArray} (h:Ans f args w (zEp x) (zEr x) (zHa x)) (e:x=y) (hy:IsR s t y):Ans f args w s t 0:=by
 subst e;rw[←hy.2.1,←hy.2.2,err_of hy]at h;exact h
theorem isR_kilo:IsR ⟨#[49,48,48,48]⟩ ⟨#[49]⟩ 1000:=zBf _ _ 1000 1 _ (by decide +kernel) (by decide +kernel) (by decide +kernel) (by decide) (by decide) (by decide) (by decide) (by decide) (by decide)
theorem mul_kilo (w:World) (htab:Tab w):Ans 28 #[.agg #[G #[49,48,48,48],G #[49]],.agg #[G #[49],G #[49,48,48,48]]] w ⟨#[49]⟩ ⟨#[49]⟩ 0 :=
 zFb (rmul_ok _ _ _ _ _ _ w isR_kilo isR_milli htab) (by decide +kernel) zAz
def gramU:Array Value:=#[G #[103,114,97,109],G #[103],I 0,I 1,I 0,I 0,I 0,I 0,I 0,I 0,G #[49],G #[49,48,48,48],G #[48],G #[49],I 1]
def zEc:Array Value:=#[G #[107,105,108,111,103,114,97,109],G #[107,103],I 0,I 1,I 0,I 0,I 0,I 0,I 0,I 0,G #[49],G #[49],G #[48],G #[49],I 1]
theorem zGx:(Tryz.prog.info? 291).map (·.size)=some 5:=by kernel_rfl
theorem res30 {fn:Func} {p:Tmp} (h:fn.results=#[.cell p 30]) (tmps:Array Value) (w:World) (g:Nat) (vs:Array Value) (hl:vs.size=15) (hp:tmps.getD p undef=.pointer (some ⟨g,0,none⟩)) (ho:zAc w g 30 vs) :
  (results fn tmps).run Tryz.prog w=.ok (.agg vs) w:=by
 rw[zBb h,hp];simp only[asAddr,Sem.run_pure,Result.andThen_ok];rw[run_loadVar_row w g 30 30 vs (0,0) _ ho Tryz.underlying30 rfl (by rw[zEd,hl])]
theorem thousand_gram (w:World) (htab:Tab w):Calls Tryz.prog 232 #[.agg gramU] w fun r w'=>r=.returned (.agg zEc)∧Bw w w':=by
 unfold gramU zEc;obtain⟨V,hV⟩:∃V,V=(w.alloc (.cells #[G #[103,114,97,109],G #[103],I 0,I 1,I 0,I 0,I 0,I 0,I 0,I 0,G #[49],G #[49,48,48,48],G #[48],G #[49],I 1] 30)).alloc (.cells z15 30):=⟨_,rfl⟩;have HB:Hid (Bw w V):=by rw[hV];exact bA.alloc (by simp) _
 have HA:Hid (zAc V w.heap.size 30 #[G #[103,114,97,109],G #[103],I 0,I 1,I 0,I 0,I 0,I 0,I 0,I 0,G #[49],G #[49,48,48,48],G #[48],G #[49],I 1]):=by rw[hV];exact(zAc.new _ _ _).alloc _
 have HR:Hid (zAc V (w.heap.size+1) 30 z15):=by rw[hV];have h:=zAc.new (w.alloc (.cells #[G #[103,114,97,109],G #[103],I 0,I 1,I 0,I 0,I 0,I 0,I 0,I 0,G #[49],G #[49,48,48,48],G #[48],G #[49],I 1] 30)) z15 30;rw[Dm.size_alloc]at h;exact h
 have HTA:Hid (∀W,Below w.heap.size w W→Tab W):=fun W h=>htab.later h
 have HV:=zAb hV;clear hV htab;go_enter Tryz.func232,Tryz.ntmps232
 go_upto_region 1 with fail
 rw[←un HV];clear HV
 go_upto_region 2 with (first
  | (go_at_call 267;go_must(refine(Pf.find_kilo _ (un HTA _ (un HB))).mono ?_;rintro e w1 ⟨rfl,hb⟩;have HA1:=zAb ((un HA).later hb);have HR1:=zAb ((un HR).later hb);have HB1:Hid (Bw w w1):=bt HB hb;clear hb))
  | (refine zAn 291 5 zGx rfl (.tmp 3) (.tmp 7) rfl w1.heap.size #[G #[],G #[],G #[],G #[],.bool false] #[G #[107,105,108,111],G #[107],G #[49,48,48,48],G #[49],.bool false] rfl rfl rfl rfl (zAc.new _ _ _) (by kernel_rfl) ?_))
 obtain⟨V2,hV2⟩:∃V2,V2=(w1.alloc (.cells #[G #[],G #[],G #[],G #[],.bool false] 291)).setRow w1.heap.size #[G #[107,105,108,111],G #[107],G #[49,48,48,48],G #[49],.bool false]:=⟨_,rfl⟩;have hb2:Below w1.heap.size w1 V2:=by rw[hV2];exact below_setRow (zBx _ _) (Nat.le_refl _) _
 have HK2:Hid (zAc V2 w1.heap.size 291 #[G #[107,105,108,111],G #[107],G #[49,48,48,48],G #[49],.bool false]):=by rw[hV2];exact(zAc.new _ _ _).setRow _
 have HA2:=zAb ((un HA1).later hb2);have HR2:=zAb ((un HR1).later hb2);have HB2:Hid (Bw w V2):=bt HB1 hb2;have HNE:Hid (¬w1.heap.size=w.heap.size∧¬w1.heap.size=w.heap.size+1):=(by have:=(un HR1).lt;show _∧_;omega);rw[←hV2];clear hV2 hb2 HA1 HR1 HB1 HA HR HB;generalize w1.heap.size=g3 at *
 have HA3:Hid (zAc V2.drew w.heap.size 30 #[G #[103,114,97,109],G #[103],I 0,I 1,I 0,I 0,I 0,I 0,I 0,I 0,G #[49],G #[49,48,48,48],G #[48],G #[49],I 1]):=un HA2;have HR3:Hid (zAc V2.drew (w.heap.size+1) 30 z15):=un HR2;have HK3:Hid (zAc V2.drew g3 291 #[G #[107,105,108,111],G #[107],G #[49,48,48,48],G #[49],.bool false]):=un HK2;have HB3:Hid (Bw w V2.drew):=(un HB2).drew;clear HA2 HR2 HK2 HB2;have HS0:Hid (V2.drew.cell? ⟨w.heap.size,0,none⟩=some (G #[103,114,97,109])∧V2.drew.cell? ⟨w.heap.size,1,none⟩=some (G #[103])):=⟨(un HA3).ub.c 0 _ rfl,(un HA3).ub.c 1 _ rfl⟩;have HS7:Hid (V2.drew.cell? ⟨g3,0,none⟩=some (G #[107,105,108,111])∧V2.drew.cell? ⟨g3,1,none⟩=some (G #[107])):=⟨(un HK3).ub.c 0 _ rfl,(un HK3).ub.c 1 _ rfl⟩;have HF0:=zAb ((un HA3).ub.f 0 _ rfl);have HF1:=zAb ((un HA3).ub.f 1 _ rfl);refine zAi 11 (fun W'=>W'.cell? ⟨w.heap.size,0,none⟩=some (G #[103,114,97,109])∧W'.cell? ⟨w.heap.size,1,none⟩=some (G #[103])) (fun W'=>W'.cell? ⟨g3,0,none⟩=some (G #[107,105,108,111])∧W'.cell? ⟨g3,1,none⟩=some (G #[107])) 14 rfl (by kernel_rfl) ?_;refine wT7 0 (.pointer (some ⟨g3,0,none⟩)) rfl (Or.inl ⟨by rfl,?_⟩) ⟨un HS0,un HS7⟩ ?_
 ·intro W' hW
  go_split_ands
  go_simp
 refine wT7 1 (G #[107,105,108,111]) rfl (Or.inl ⟨by rfl,?_⟩) ⟨un HS0,un HS7⟩ ?_
 ·intro W' hW
  go_split_ands
  go_simp
 refine wT7 2 (.pointer (some ⟨w.heap.size,0,none⟩)) rfl (Or.inl ⟨by rfl,?_⟩) ⟨un HS0,un HS7⟩ ?_
 ·intro W' hW
  go_split_ands
  go_simp
 refine wT 3 (G #[103,114,97,109]) rfl (Or.inl ⟨by rfl,?_⟩) ⟨un HS0,un HS7⟩ ?_
 ·intro W' hW
  go_split_ands
  go_simp
 refine wT7 4 (G #[107,105,108,111,103,114,97,109]) rfl (Or.inl ⟨by rfl,?_⟩) ⟨un HS0,un HS7⟩ ?_
 ·intro W' hW
  go_split_ands
  go_simp
  decide
 refine wT7 5 (.pointer (some ⟨g3,1,none⟩)) rfl (Or.inl ⟨by rfl,?_⟩) ⟨un HS0,un HS7⟩ ?_
 ·intro W' hW
  go_split_ands
  go_simp
 refine wT7 6 (G #[107]) rfl (Or.inl ⟨by rfl,?_⟩) ⟨un HS0,un HS7⟩ ?_
 ·intro W' hW
  go_split_ands
  go_simp
 refine wT7 7 (.pointer (some ⟨w.heap.size,1,none⟩)) rfl (Or.inl ⟨by rfl,?_⟩) ⟨un HS0,un HS7⟩ ?_
 ·intro W' hW
  go_split_ands
  go_simp
 refine wT 8 (G #[103]) rfl (Or.inl ⟨by rfl,?_⟩) ⟨un HS0,un HS7⟩ ?_
 ·intro W' hW
  go_split_ands
  go_simp
 refine wT7 9 (G #[107,103]) rfl (Or.inl ⟨by rfl,?_⟩) ⟨un HS0,un HS7⟩ ?_
 ·intro W' hW
  go_split_ands
  go_simp
  decide
 refine wT7 10 (.pointer (some ⟨w.heap.size,0,none⟩)) rfl (Or.inl ⟨by rfl,?_⟩) ⟨un HS0,un HS7⟩ ?_
 ·intro W' hW
  go_split_ands
  go_simp
 generalize V2.drew=U at *
 have a0:=(un HS0).1;have a1:=(un HS0).2;have f0:=un HF0;have f1:=un HF1;refine wL 11 rfl rfl (fun K hK=>?_)
 go_simp
 have HK4:=zAb ((un HK3).otherSet (un HNE).1 0 (G #[107,105,108,111,103,114,97,109]));refine hK _ _ ⟨(un HK4).ub.c 0 _ rfl,(un HK4).ub.c 1 _ rfl⟩ ?_;clear hK K;have HA4:=zAb ((un HA3).set 0 (G #[107,105,108,111,103,114,97,109]));have HR4:=zAb ((un HR3).otherSet (show ¬w.heap.size+1=w.heap.size by omega) 0 (G #[107,105,108,111,103,114,97,109]));have HB4:Hid (Bw w (U.setCell ⟨w.heap.size,0,none⟩ (G #[107,105,108,111,103,114,97,109]))):=(un HB3).setCell (p:=⟨w.heap.size,0,none⟩) (Nat.le_refl _) _;clear a0 a1 f0 f1 HA3 HR3 HK3 HB3 HS0 HS7 HF0 HF1;generalize U.setCell ⟨w.heap.size,0,none⟩ (G #[107,105,108,111,103,114,97,109])=U4 at *
 refine wL 12 rfl rfl (fun K hK=>?_)
 go_simp
 refine hK _ _ ⟨(un HK4).ub.c 0 _ rfl,(un HK4).ub.c 1 _ rfl⟩ ?_;clear hK K;have a1:U4.cell? ⟨w.heap.size,1,none⟩=some (G #[103]):=(un HA4).ub.c 1 _ rfl;have f1:U4.frozen? ⟨w.heap.size,1,none⟩=false:=(un HA4).ub.f 1 _ rfl;refine wL 13 rfl rfl (fun K hK=>?_)
 go_simp
 have HK5:=zAb ((un HK4).otherSet (un HNE).1 1 (G #[107,103]));refine hK _ _ ⟨(un HK5).ub.c 0 _ rfl,(un HK5).ub.c 1 _ rfl⟩ ?_;clear hK K;have HA5:=zAb ((un HA4).set 1 (G #[107,103]));have HR5:=zAb ((un HR4).otherSet (show ¬w.heap.size+1=w.heap.size by omega) 1 (G #[107,103]));have HB5:Hid (Bw w (U4.setCell ⟨w.heap.size,1,none⟩ (G #[107,103]))):=(un HB4).setCell (p:=⟨w.heap.size,1,none⟩) (Nat.le_refl _) _;clear a1 f1 HA4 HR4 HK4 HB4;generalize U4.setCell ⟨w.heap.size,1,none⟩ (G #[107,103])=U5 at *
 refine wDn ?_;have HA6:Hid (zAc U5 w.heap.size 30 #[G #[107,105,108,111,103,114,97,109],G #[107,103],I 0,I 1,I 0,I 0,I 0,I 0,I 0,I 0,G #[49],G #[49,48,48,48],G #[48],G #[49],I 1]):=un HA5;clear HA5;have p2:U5.cell? ⟨g3,2,none⟩=some (G #[49,48,48,48]):=(un HK5).ub.c 2 _ rfl;have p3:U5.cell? ⟨g3,3,none⟩=some (G #[49]):=(un HK5).ub.c 3 _ rfl;have q0:U5.cell? ⟨w.heap.size,10,none⟩=some (G #[49]):=(un HA6).ub.c 10 _ rfl;have q1:U5.cell? ⟨w.heap.size,11,none⟩=some (G #[49,48,48,48]):=(un HA6).ub.c 11 _ rfl
 go_upto_region 4 with (go_at_call 28;go_must(refine(mul_kilo _ (un HTA _ (un HB5))).mono ?_;rintro e w6 ⟨rfl,hb⟩;have HA7:=zAb ((un HA6).later hb);have HR7:=zAb ((un HR5).later hb);have HB7:Hid (Bw w w6):=bt HB5 hb;clear hb p2 p3 q0 q1;have q0:w6.cell? ⟨w.heap.size,10,none⟩=some (G #[49]):=(un HA7).ub.c 10 _ rfl;have q1:w6.cell? ⟨w.heap.size,11,none⟩=some (G #[49,48,48,48]):=(un HA7).ub.c 11 _ rfl;have f0:w6.frozen? ⟨w.heap.size,10,none⟩=false:=(un HA7).ub.f 10 _ rfl;have f1:w6.frozen? ⟨w.heap.size,11,none⟩=false:=(un HA7).ub.f 11 _ rfl))
 have HA8:Hid (zAc ((w6.setCell ⟨w.heap.size,10,none⟩ (G #[49])).setCell ⟨w.heap.size,11,none⟩ (G #[49])) w.heap.size 30 #[G #[107,105,108,111,103,114,97,109],G #[107,103],I 0,I 1,I 0,I 0,I 0,I 0,I 0,I 0,G #[49],G #[49],G #[48],G #[49],I 1]):=((un HA7).set 10 _).set 11 _;have HR8:Hid (zAc ((w6.setCell ⟨w.heap.size,10,none⟩ (G #[49])).setCell ⟨w.heap.size,11,none⟩ (G #[49])) (w.heap.size+1) 30 z15):=((un HR7).otherSet (show ¬w.heap.size+1=w.heap.size by omega) 10 _).otherSet (show ¬w.heap.size+1=w.heap.size by omega) 11 _;have HB8:Hid (Bw w ((w6.setCell ⟨w.heap.size,10,none⟩ (G #[49])).setCell ⟨w.heap.size,11,none⟩ (G #[49]))):=((un HB7).setCell (p:=⟨w.heap.size,10,none⟩) (Nat.le_refl _) _).setCell (p:=⟨w.heap.size,11,none⟩) (Nat.le_refl _) _;clear q0 q1 f0 f1 HA7 HR7 HB7;generalize (w6.setCell ⟨w.heap.size,10,none⟩ (G #[49])).setCell ⟨w.heap.size,11,none⟩ (G #[49])=U8 at *
 go_wp2_with (first
  | (refine wpList_load_row rfl 30 (.tmp 1) rfl w.heap.size rfl 30 #[G #[107,105,108,111,103,114,97,109],G #[107,103],I 0,I 1,I 0,I 0,I 0,I 0,I 0,I 0,G #[49],G #[49],G #[48],G #[49],I 1] (0,0) _ (un HA8) Tryz.underlying30 rfl (by kernel_rfl) ?_)
  | (refine zAn 30 15 zEd rfl (.tmp 2) (.tmp 30) rfl (w.heap.size+1) z15 #[G #[107,105,108,111,103,114,97,109],G #[107,103],I 0,I 1,I 0,I 0,I 0,I 0,I 0,I 0,G #[49],G #[49],G #[48],G #[49],I 1] rfl rfl rfl rfl (un HR8) (by kernel_rfl) ?_))
 exact bodyPost_ret (v:=.agg #[G #[107,105,108,111,103,114,97,109],G #[107,103],I 0,I 1,I 0,I 0,I 0,I 0,I 0,I 0,G #[49],G #[49],G #[48],G #[49],I 1]) (res30 Tryz.results232 _ _ (w.heap.size+1) _ rfl rfl ((un HR8).setRow _)) rfl ⟨rfl,below_setRow (un HB8) (by omega) _⟩
theorem zGv (w:World):Calls Tryz.prog 225 #[] w fun r w'=>r=.returned (.agg #[I 0,I 0,I 0,I 0,I 1,I 0,I 0,I 0,I 1000,I 1000])∧Below w.heap.size w w':=by
 obtain⟨V,hV⟩:∃V,V=w.alloc (.cells #[I 0,I 0,I 0,I 0,I 0,I 0,I 0,I 0,I 0,I 0] 235):=⟨_,rfl⟩
 have HR:Hid (zAc V w.heap.size 235 #[I 0,I 0,I 0,I 0,I 0,I 0,I 0,I 0,I 0,I 0]):=by rw[hV];exact zAc.new _ _ _
 have HB:Hid (Below w.heap.size w V):=by rw[hV];exact(Below.refl _ _).alloc (Nat.le_refl _) _
 have HV:=zAb hV
 clear hV
 go_enter Tryz.func225,Tryz.ntmps225
 go_upto_region 1 with fail
 rw[←un HV]
 clear HV
 go_wp2_with fail
 refine(zEx _).mono ?_
 rintro e W ⟨rfl,hb⟩
 have HR1:=zAb ((un HR).later hb);have HB1:=zAb ((un HB).trans (hb.mono (un HB).size))
 clear HR HB hb
 have HR:=HR1;have HB:=HB1
 clear HR1 HB1
 go_wp2_with fail
 refine(gram_made _).mono ?_
 rintro e W ⟨rfl,hb⟩
 have HR1:=zAb ((un HR).later hb);have HB1:=zAb ((un HB).trans (hb.mono (un HB).size))
 clear HR HB hb
 have HR:=HR1;have HB:=HB1
 clear HR1 HB1
 go_wp2_with fail
 refine(zCy _).mono ?_
 rintro e W ⟨rfl,hb⟩
 have HR1:=zAb ((un HR).later hb);have HB1:=zAb ((un HB).trans (hb.mono (un HB).size))
 clear HR HB hb
 have HR:=HR1;have HB:=HB1
 clear HR1 HB1
 go_wp2_with fail
 refine(joule_made _).mono ?_
 rintro e W ⟨rfl,hb⟩
 have HR1:=zAb ((un HR).later hb);have HB1:=zAb ((un HB).trans (hb.mono (un HB).size))
 clear HR HB hb
 have HR:=HR1;have HB:=HB1
 clear HR1 HB1
 go_upto_region 2 with fail
 have HX:Hid (zAc (W.alloc (.cells #[I 2,I 1,I (-2),I 0,I 0,I 0,I 0,I 0,I 1000,I 1000] 235)) W.heap.size 235 #[I 2,I 1,I (-2),I 0,I 0,I 0,I 0,I 0,I 1000,I 1000]∧Below W.heap.size W (W.alloc (.cells #[I 2,I 1,I (-2),I 0,I 0,I 0,I 0,I 0,I 1000,I 1000] 235))):=⟨zAc.new _ _ _,(Below.refl _ _).alloc (Nat.le_refl _) _⟩
 obtain⟨g1,hg1⟩:∃g1,g1=W.heap.size:=⟨_,rfl⟩
 obtain⟨U,hU⟩:∃U,U=W.alloc (.cells #[I 2,I 1,I (-2),I 0,I 0,I 0,I 0,I 0,I 1000,I 1000] 235):=⟨_,rfl⟩
 rw[←hU]at HX ⊢
 rw[←hg1]at HX ⊢
 have hne:¬g1=w.heap.size:=by have:=(un HR).lt;omega
 have HR1:=zAb ((un HR).later (by rw[←hg1];exact(un HX).2));have HB1:=zAb ((un HB).trans (Below.mono (by rw[←hg1];exact(un HX).2:Below W.heap.size W U) (un HB).size))
 have HQ:=zAb (un HX).1
 clear HX HR HB hU hg1
 have HBD:Hid (Below U.heap.size U U.drew):=(Below.refl _ _).drew
 have HSS:Hid (∀W',zAc W' g1 235 #[I 2,I 1,I (-2),I 0,I 0,I 0,I 0,I 0,I 1000,I 1000]→W'.cell? ⟨g1,0,none⟩=some (I 2)∧W'.cell? ⟨g1,1,none⟩=some (I 1)∧W'.cell? ⟨g1,2,none⟩=some (I (-2))∧W'.cell? ⟨g1,3,none⟩=some (I 0)∧W'.cell? ⟨g1,4,none⟩=some (I 0)∧W'.cell? ⟨g1,5,none⟩=some (I 0)∧W'.cell? ⟨g1,6,none⟩=some (I 0)∧W'.cell? ⟨g1,7,none⟩=some (I 0)∧W'.cell? ⟨g1,8,none⟩=some (I 1000)∧W'.cell? ⟨g1,9,none⟩=some (I 1000)):=fun W' h=>⟨h.ub.c 0 _ rfl,h.ub.c 1 _ rfl,h.ub.c 2 _ rfl,h.ub.c 3 _ rfl,h.ub.c 4 _ rfl,h.ub.c 5 _ rfl,h.ub.c 6 _ rfl,h.ub.c 7 _ rfl,h.ub.c 8 _ rfl,h.ub.c 9 _ rfl⟩
 have HR2:=zAb ((un HR1).later (un HBD));have HQ2:=zAb ((un HQ).later (un HBD));have HB2:=zAb ((un HB1).trans ((un HBD).mono (un HB1).size))
 clear HR1 HQ HB1
 have HS0:=zAb (un HSS _ (un HQ2))
 refine zAi 4 (fun W'=>W'.cell? ⟨g1,0,none⟩=some (I 2)∧W'.cell? ⟨g1,1,none⟩=some (I 1)∧W'.cell? ⟨g1,2,none⟩=some (I (-2))∧W'.cell? ⟨g1,3,none⟩=some (I 0)∧W'.cell? ⟨g1,4,none⟩=some (I 0)∧W'.cell? ⟨g1,5,none⟩=some (I 0)∧W'.cell? ⟨g1,6,none⟩=some (I 0)∧W'.cell? ⟨g1,7,none⟩=some (I 0)∧W'.cell? ⟨g1,8,none⟩=some (I 1000)∧W'.cell? ⟨g1,9,none⟩=some (I 1000)) (fun _=>True) 5 rfl (by kernel_rfl) ?_
 refine zAd (i:=0) (oi:=_) (v:=.agg #[I 2,I 1,I (-2),I 0,I 0,I 0,I 0,I 0,I 1000,I 1000]) rfl (by kernel_rfl) (by kernel_rfl) (by kernel_rfl) (by kernel_rfl) (fun _ _ _ h=>h) (Or.inl ⟨by rfl,?_⟩) ⟨un HS0,trivial⟩ ?_
 ·intro W' hW
  go_split_ands
  go_simp
 clear HBD HS0
 generalize U.drew=U0 at *
 refine zAg (i:=1) (o:=_) (by kernel_rfl) rfl rfl (fun K hK=>?_)
 go_simp
 refine hK _ _ ⟨un HSS _ (un HQ2),trivial⟩ ?_
 clear hK K
 refine zAg (i:=2) (o:=_) (by kernel_rfl) rfl rfl (fun K hK=>?_)
 go_simp
 refine(zDx 2 1 (-2) 0 (-1) 0 0 0 _).mono ?_
 rintro e U1 ⟨rfl,hb⟩
 have HR3:=zAb ((un HR2).later hb);have HQ3:=zAb ((un HQ2).later hb);have HB3:=zAb ((un HB2).trans (hb.mono (un HB2).size))
 clear hb HR2 HQ2 HB2
 refine hK _ _ ⟨un HSS _ (un HQ3),trivial⟩ ?_
 clear hK K
 refine zAg (i:=3) (o:=_) (by kernel_rfl) rfl rfl (fun K hK=>?_)
 go_simp
 refine(zFm 2 1 (-2) 0 0 0 0 0 1000 1000 2 1 (-2) 0 (-1) 0 0 0 1 1 0 0 0 0 1 0 0 0 1000 1000 _ (by decide +kernel) (by decide +kernel) (by decide +kernel)).mono ?_
 rintro e U2 ⟨rfl,hb⟩
 have HR4:=zAb ((un HR3).later hb);have HQ4:=zAb ((un HQ3).later hb);have HB4:=zAb ((un HB3).trans (hb.mono (un HB3).size))
 clear hb HR3 HQ3 HB3
 refine hK _ _ ⟨un HSS _ (un HQ4),trivial⟩ ?_
 clear hK K
 refine zAj (i:=4) (o:=_) (by kernel_rfl) rfl rfl (by kernel_rfl) (fun K hK=>?_)
 refine wp_store_row 235 (.tmp 0) (.tmp 9) rfl w.heap.size #[I 0,I 0,I 0,I 0,I 1,I 0,I 0,I 0,I 1000,I 1000] rfl rfl 235 _ (un HR4) (by rw[zCv];rfl) rfl (by kernel_rfl) (hK _ _ trivial ?_)
 clear hK K
 refine zAm (by kernel_rfl) ?_
 go_wp2_with fail
 exact bodyPost_ret (v:=.agg #[I 0,I 0,I 0,I 0,I 1,I 0,I 0,I 0,I 1000,I 1000]) (res43 Tryz.results225 _ _ w.heap.size _ rfl rfl ((un HR4).setRow _)) rfl ⟨rfl,below_setRow (un HB4) (Nat.le_refl _) _⟩
theorem candela_made (w:World):Calls Tryz.prog 224 #[] w fun r w'=>r=.returned (.agg #[I 0,I 0,I 0,I 0,I 0,I 0,I 1,I 0,I 1000,I 1000])∧Below w.heap.size w w':=by
 obtain⟨V,hV⟩:∃V,V=w.alloc (.cells #[I 0,I 0,I 0,I 0,I 0,I 0,I 0,I 0,I 0,I 0] 235):=⟨_,rfl⟩
 have HR:Hid (zAc V w.heap.size 235 #[I 0,I 0,I 0,I 0,I 0,I 0,I 0,I 0,I 0,I 0]):=by rw[hV];exact zAc.new _ _ _
 have HB:Hid (Below w.heap.size w V):=by rw[hV];exact(Below.refl _ _).alloc (Nat.le_refl _) _
 have HV:=zAb hV
 clear hV
 go_enter Tryz.func224,Tryz.ntmps224
 go_upto_region 1 with fail
 rw[←un HV]
 clear HV
 go_wp2_with fail
 refine(zEx _).mono ?_
 rintro e W ⟨rfl,hb⟩
 have HR1:=zAb ((un HR).later hb);have HB1:=zAb ((un HB).trans (hb.mono (un HB).size))
 clear HR HB hb
 have HR:=HR1;have HB:=HB1
 clear HR1 HB1
 go_wp2_with fail
 refine(gram_made _).mono ?_
 rintro e W ⟨rfl,hb⟩
 have HR1:=zAb ((un HR).later hb);have HB1:=zAb ((un HB).trans (hb.mono (un HB).size))
 clear HR HB hb
 have HR:=HR1;have HB:=HB1
 clear HR1 HB1
 go_wp2_with fail
 refine(zCy _).mono ?_
 rintro e W ⟨rfl,hb⟩
 have HR1:=zAb ((un HR).later hb);have HB1:=zAb ((un HB).trans (hb.mono (un HB).size))
 clear HR HB hb
 have HR:=HR1;have HB:=HB1
 clear HR1 HB1
 go_wp2_with fail
 refine(joule_made _).mono ?_
 rintro e W ⟨rfl,hb⟩
 have HR1:=zAb ((un HR).later hb);have HB1:=zAb ((un HB).trans (hb.mono (un HB).size))
 clear HR HB hb
 have HR:=HR1;have HB:=HB1
 clear HR1 HB1
 go_wp2_with fail
 refine(zCy _).mono ?_
 rintro e W ⟨rfl,hb⟩
 have HR1:=zAb ((un HR).later hb);have HB1:=zAb ((un HB).trans (hb.mono (un HB).size))
 clear HR HB hb
 have HR:=HR1;have HB:=HB1
 clear HR1 HB1
 go_wp2_with fail
 refine(zFm 2 1 (-2) 0 0 0 0 0 1000 1000 0 0 1 0 0 0 0 0 1 1 2 1 (-3) 0 0 0 0 0 1000 1000 _ (by decide +kernel) (by decide +kernel) (by decide +kernel)).mono ?_
 rintro e W ⟨rfl,hb⟩
 have HR1:=zAb ((un HR).later hb);have HB1:=zAb ((un HB).trans (hb.mono (un HB).size))
 clear HR HB hb
 have HR:=HR1;have HB:=HB1
 clear HR1 HB1
 go_upto_region 2 with fail
 have HX:Hid (zAc (W.alloc (.cells #[I 2,I 1,I (-3),I 0,I 0,I 0,I 0,I 0,I 1000,I 1000] 235)) W.heap.size 235 #[I 2,I 1,I (-3),I 0,I 0,I 0,I 0,I 0,I 1000,I 1000]∧Below W.heap.size W (W.alloc (.cells #[I 2,I 1,I (-3),I 0,I 0,I 0,I 0,I 0,I 1000,I 1000] 235))):=⟨zAc.new _ _ _,(Below.refl _ _).alloc (Nat.le_refl _) _⟩
 obtain⟨g1,hg1⟩:∃g1,g1=W.heap.size:=⟨_,rfl⟩
 obtain⟨U,hU⟩:∃U,U=W.alloc (.cells #[I 2,I 1,I (-3),I 0,I 0,I 0,I 0,I 0,I 1000,I 1000] 235):=⟨_,rfl⟩
 rw[←hU]at HX ⊢
 rw[←hg1]at HX ⊢
 have hne:¬g1=w.heap.size:=by have:=(un HR).lt;omega
 have HR1:=zAb ((un HR).later (by rw[←hg1];exact(un HX).2));have HB1:=zAb ((un HB).trans (Below.mono (by rw[←hg1];exact(un HX).2:Below W.heap.size W U) (un HB).size))
 have HQ:=zAb (un HX).1
 clear HX HR HB hU hg1
 have HBD:Hid (Below U.heap.size U U.drew):=(Below.refl _ _).drew
 have HSS:Hid (∀W',zAc W' g1 235 #[I 2,I 1,I (-3),I 0,I 0,I 0,I 0,I 0,I 1000,I 1000]→W'.cell? ⟨g1,0,none⟩=some (I 2)∧W'.cell? ⟨g1,1,none⟩=some (I 1)∧W'.cell? ⟨g1,2,none⟩=some (I (-3))∧W'.cell? ⟨g1,3,none⟩=some (I 0)∧W'.cell? ⟨g1,4,none⟩=some (I 0)∧W'.cell? ⟨g1,5,none⟩=some (I 0)∧W'.cell? ⟨g1,6,none⟩=some (I 0)∧W'.cell? ⟨g1,7,none⟩=some (I 0)∧W'.cell? ⟨g1,8,none⟩=some (I 1000)∧W'.cell? ⟨g1,9,none⟩=some (I 1000)):=fun W' h=>⟨h.ub.c 0 _ rfl,h.ub.c 1 _ rfl,h.ub.c 2 _ rfl,h.ub.c 3 _ rfl,h.ub.c 4 _ rfl,h.ub.c 5 _ rfl,h.ub.c 6 _ rfl,h.ub.c 7 _ rfl,h.ub.c 8 _ rfl,h.ub.c 9 _ rfl⟩
 have HR2:=zAb ((un HR1).later (un HBD));have HQ2:=zAb ((un HQ).later (un HBD));have HB2:=zAb ((un HB1).trans ((un HBD).mono (un HB1).size))
 clear HR1 HQ HB1
 have HS0:=zAb (un HSS _ (un HQ2))
 refine zAi 4 (fun W'=>W'.cell? ⟨g1,0,none⟩=some (I 2)∧W'.cell? ⟨g1,1,none⟩=some (I 1)∧W'.cell? ⟨g1,2,none⟩=some (I (-3))∧W'.cell? ⟨g1,3,none⟩=some (I 0)∧W'.cell? ⟨g1,4,none⟩=some (I 0)∧W'.cell? ⟨g1,5,none⟩=some (I 0)∧W'.cell? ⟨g1,6,none⟩=some (I 0)∧W'.cell? ⟨g1,7,none⟩=some (I 0)∧W'.cell? ⟨g1,8,none⟩=some (I 1000)∧W'.cell? ⟨g1,9,none⟩=some (I 1000)) (fun _=>True) 5 rfl (by kernel_rfl) ?_
 refine zAd (i:=2) (oi:=_) (v:=.agg #[I 2,I 1,I (-3),I 0,I 0,I 0,I 0,I 0,I 1000,I 1000]) rfl (by kernel_rfl) (by kernel_rfl) (by kernel_rfl) (by kernel_rfl) (fun _ _ _ h=>h) (Or.inl ⟨by rfl,?_⟩) ⟨un HS0,trivial⟩ ?_
 ·intro W' hW
  go_split_ands
  go_simp
 clear HBD HS0
 generalize U.drew=U0 at *
 refine zAg (i:=0) (o:=_) (by kernel_rfl) rfl rfl (fun K hK=>?_)
 go_simp
 refine hK _ _ ⟨un HSS _ (un HQ2),trivial⟩ ?_
 clear hK K
 refine zAg (i:=1) (o:=_) (by kernel_rfl) rfl rfl (fun K hK=>?_)
 go_simp
 refine(zDx (-2) (-1) 3 0 0 0 1 0 _).mono ?_
 rintro e U1 ⟨rfl,hb⟩
 have HR3:=zAb ((un HR2).later hb);have HQ3:=zAb ((un HQ2).later hb);have HB3:=zAb ((un HB2).trans (hb.mono (un HB2).size))
 clear hb HR2 HQ2 HB2
 refine hK _ _ ⟨un HSS _ (un HQ3),trivial⟩ ?_
 clear hK K
 refine zAg (i:=3) (o:=_) (by kernel_rfl) rfl rfl (fun K hK=>?_)
 go_simp
 refine(zDf (-2) (-1) 3 0 0 0 1 0 1 1 2 1 (-3) 0 0 0 0 0 1000 1000 0 0 0 0 0 0 1 0 1000 1000 _ (by decide +kernel) (by decide +kernel) (by decide +kernel)).mono ?_
 rintro e U2 ⟨rfl,hb⟩
 have HR4:=zAb ((un HR3).later hb);have HQ4:=zAb ((un HQ3).later hb);have HB4:=zAb ((un HB3).trans (hb.mono (un HB3).size))
 clear hb HR3 HQ3 HB3
 refine hK _ _ ⟨un HSS _ (un HQ4),trivial⟩ ?_
 clear hK K
 refine zAj (i:=4) (o:=_) (by kernel_rfl) rfl rfl (by kernel_rfl) (fun K hK=>?_)
 refine wp_store_row 235 (.tmp 0) (.tmp 11) rfl w.heap.size #[I 0,I 0,I 0,I 0,I 0,I 0,I 1,I 0,I 1000,I 1000] rfl rfl 235 _ (un HR4) (by rw[zCv];rfl) rfl (by kernel_rfl) (hK _ _ trivial ?_)
 clear hK K
 refine zAm (by kernel_rfl) ?_
 go_wp2_with fail
 exact bodyPost_ret (v:=.agg #[I 0,I 0,I 0,I 0,I 0,I 0,I 1,I 0,I 1000,I 1000]) (res43 Tryz.results224 _ _ w.heap.size _ rfl rfl ((un HR4).setRow _)) rfl ⟨rfl,below_setRow (un HB4) (Nat.le_refl _) _⟩
def nth8 (l:List Int) (k:Nat):Int:=l.getD k 0
theorem told_0 (w:World) (htab:Tab w):Calls Tryz.prog 159 #[.agg #[G #[98,105,116],G #[98],I 3,.func (.func 218) #[] #[]]] w fun r w'=>r=.returned (.agg #[G #[98,105,116],G #[98],I 0,I 0,I 0,I 0,I 0,I 0,I 0,I 1,G #[49],G #[49],G #[48],G #[49],I 3])∧Bw w w' :=
 toldB (nth8 [0,0,0,0,0,0,0,1]) 1 1 _ _ _ _ _ _ w (fun _=>by kernel_rfl) (fun W=>bit_made W) (fun W hb=>zCa 0 0 0 0 0 0 0 1 1 1 (1) _ _ W (by decide) (by decide) (by decide +kernel) (by decide +kernel) zAz (htab.later hb)) (fun W hb=>zFc W (htab.later hb))
theorem told_1 (w:World) (htab:Tab w):Calls Tryz.prog 159 #[.agg #[G #[109,111,108,101],G #[109,111,108],I 1,.func (.func 219) #[] #[]]] w fun r w'=>r=.returned (.agg #[G #[109,111,108,101],G #[109,111,108],I 0,I 0,I 0,I 0,I 0,I 1,I 0,I 0,G #[49],G #[49],G #[48],G #[49],I 1])∧Bw w w' :=
 toldB (nth8 [0,0,0,0,0,1,0,0]) 1 1 _ _ _ _ _ _ w (fun _=>by kernel_rfl) (fun W=>mole_made W) (fun W hb=>zCa 0 0 0 0 0 1 0 0 1 1 (1) _ _ W (by decide) (by decide) (by decide +kernel) (by decide +kernel) zAz (htab.later hb)) (fun W hb=>zFc W (htab.later hb))
theorem told_2 (w:World) (htab:Tab w):Calls Tryz.prog 159 #[.agg #[G #[115,101,99,111,110,100],G #[115],I 1,.func (.func 220) #[] #[]]] w fun r w'=>r=.returned (.agg #[G #[115,101,99,111,110,100],G #[115],I 0,I 0,I 1,I 0,I 0,I 0,I 0,I 0,G #[49],G #[49],G #[48],G #[49],I 1])∧Bw w w' :=
 toldB (nth8 [0,0,1,0,0,0,0,0]) 1 1 _ _ _ _ _ _ w (fun _=>by kernel_rfl) (fun W=>zCy W) (fun W hb=>zCa 0 0 1 0 0 0 0 0 1 1 (1) _ _ W (by decide) (by decide) (by decide +kernel) (by decide +kernel) zAz (htab.later hb)) (fun W hb=>zFc W (htab.later hb))
theorem told_3 (w:World) (htab:Tab w):Calls Tryz.prog 159 #[.agg #[G #[97,109,112,101,114,101],G #[65],I 1,.func (.func 221) #[] #[]]] w fun r w'=>r=.returned (.agg #[G #[97,109,112,101,114,101],G #[65],I 0,I 0,I 0,I 1,I 0,I 0,I 0,I 0,G #[49],G #[49],G #[48],G #[49],I 1])∧Bw w w' :=
 toldB (nth8 [0,0,0,1,0,0,0,0]) 1 1 _ _ _ _ _ _ w (fun _=>by kernel_rfl) (fun W=>ampere_made W) (fun W hb=>zCa 0 0 0 1 0 0 0 0 1 1 (1) _ _ W (by decide) (by decide) (by decide +kernel) (by decide +kernel) zAz (htab.later hb)) (fun W hb=>zFc W (htab.later hb))
theorem told_4 (w:World) (htab:Tab w):Calls Tryz.prog 159 #[.agg #[G #[109,101,116,114,101],G #[109],I 1,.func (.func 222) #[] #[]]] w fun r w'=>r=.returned (.agg #[G #[109,101,116,114,101],G #[109],I 1,I 0,I 0,I 0,I 0,I 0,I 0,I 0,G #[49],G #[49],G #[48],G #[49],I 1])∧Bw w w' :=
 toldB (nth8 [1,0,0,0,0,0,0,0]) 1 1 _ _ _ _ _ _ w (fun _=>by kernel_rfl) (fun W=>zEx W) (fun W hb=>zCa 1 0 0 0 0 0 0 0 1 1 (1) _ _ W (by decide) (by decide) (by decide +kernel) (by decide +kernel) zAz (htab.later hb)) (fun W hb=>zFc W (htab.later hb))
theorem told_5 (w:World) (htab:Tab w):Calls Tryz.prog 159 #[.agg #[G #[103,114,97,109],G #[103],I 1,.func (.func 223) #[] #[]]] w fun r w'=>r=.returned (.agg #[G #[103,114,97,109],G #[103],I 0,I 1,I 0,I 0,I 0,I 0,I 0,I 0,G #[49],G #[49,48,48,48],G #[48],G #[49],I 1])∧Bw w w' :=
 toldB (nth8 [0,1,0,0,0,0,0,0]) 1 1000 _ _ _ _ _ _ w (fun _=>by kernel_rfl) (fun W=>gram_made W) (fun W hb=>zCa 0 1 0 0 0 0 0 0 1 1000 (1 / 1000) _ _ W (by decide) (by decide) (by decide +kernel) (by decide +kernel) isR_milli (htab.later hb)) (fun W hb=>zFc W (htab.later hb))
theorem told_6 (w:World) (htab:Tab w):Calls Tryz.prog 159 #[.agg #[G #[99,97,110,100,101,108,97],G #[99,100],I 1,.func (.func 224) #[] #[]]] w fun r w'=>r=.returned (.agg #[G #[99,97,110,100,101,108,97],G #[99,100],I 0,I 0,I 0,I 0,I 0,I 0,I 1,I 0,G #[49],G #[49],G #[48],G #[49],I 1])∧Bw w w' :=
 toldB (nth8 [0,0,0,0,0,0,1,0]) 1000 1000 _ _ _ _ _ _ w (fun _=>by kernel_rfl) (fun W=>candela_made W) (fun W hb=>zCa 0 0 0 0 0 0 1 0 1000 1000 (1) _ _ W (by decide) (by decide) (by decide +kernel) (by decide +kernel) zAz (htab.later hb)) (fun W hb=>zFc W (htab.later hb))
theorem told_7 (w:World) (htab:Tab w):Calls Tryz.prog 159 #[.agg #[G #[107,101,108,118,105,110],G #[75],I 1,.func (.func 225) #[] #[]]] w fun r w'=>r=.returned (.agg #[G #[107,101,108,118,105,110],G #[75],I 0,I 0,I 0,I 0,I 1,I 0,I 0,I 0,G #[49],G #[49],G #[48],G #[49],I 1])∧Bw w w' :=
 toldB (nth8 [0,0,0,0,1,0,0,0]) 1000 1000 _ _ _ _ _ _ w (fun _=>by kernel_rfl) (fun W=>zGv W) (fun W hb=>zCa 0 0 0 0 1 0 0 0 1000 1000 (1) _ _ W (by decide) (by decide) (by decide +kernel) (by decide +kernel) zAz (htab.later hb)) (fun W hb=>zFc W (htab.later hb))
end Go.Proofs.YtliadckofhblnaaGreatDoor

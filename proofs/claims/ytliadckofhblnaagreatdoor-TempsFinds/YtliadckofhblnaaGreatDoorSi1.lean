/- Amounts of si: number, one, times, by. -/
import Derived.Test.YtliadckofhblnaaGreatDoorAdd
import Derived.Test.YtliadckofhblnaaGreatDoorReads
import Derived.Test.YtliadckofhblnaaGreatDoorJoule
import Derived.OwnWalk
import Derived.Laws.AppendOwn
import Derived.Laws.EntriesVeiled
import Derived.Test.YtliadckofhblnaaGreatDoorTmUnit
set_option maxHeartbeats 8000000
set_option maxRecDepth 100000
namespace Go.Proofs.YtliadckofhblnaaGreatDoor
open Go.RowKit
abbrev z15:Array Value:=#[G #[],G #[],I 0,I 0,I 0,I 0,I 0,I 0,I 0,I 0,G #[],G #[],G #[],G #[],I 0]
theorem err_of {s t:ByteArray} {x:Rat} (h:IsR s t x):zHa x=0:=by
 unfold zHa;rw[if_pos h.1]
theorem zFb {f:Nat} {args:Array Value} {w:World} {x y:Rat} {s t:ByteArray} (h:Ans f args w (zEp x) (zEr x) (zHa x)) (e:x=y) (hy:IsR s t y):Ans f args w s t 0:=by
 subst e;rw[←hy.2.1,←hy.2.2,err_of hy]at h;exact h
theorem isR_kilo:IsR ⟨#[49,48,48,48]⟩ ⟨#[49]⟩ 1000:=zBf _ _ 1000 1 _ (by decide +kernel) (by decide +kernel) (by decide +kernel) (by decide) (by decide) (by decide) (by decide) (by decide) (by decide)
theorem mul_kilo (w:World) (htab:Tab w):Ans 28 #[.agg #[G #[49,48,48,48],G #[49]],.agg #[G #[49],G #[49,48,48,48]]] w ⟨#[49]⟩ ⟨#[49]⟩ 0 :=
 zFb (rmul_ok _ _ _ _ _ _ w isR_kilo isR_milli htab) (by decide +kernel) zAz
def gramU:Array Value:=#[G #[103,114,97,109],G #[103],I 0,I 1,I 0,I 0,I 0,I 0,I 0,I 0,G #[49],G #[49,48,48,48],G #[48],G #[49],I 1]
def zEc:Array Value:=#[G #[107,105,108,111,103,114,97,109],G #[107,103],I 0,I 1,I 0,I 0,I 0,I 0,I 0,I 0,G #[49],G #[49],G #[48],G #[49],I 1]
theorem zGx:(Tryz.prog.info? 291).map (·.size)=some 5:=by kernel_rfl
theorem res30 {fn:Func} {p:Tmp} (h:fn.results=#[.cell p 30]) (tmps:Array Value) (w:World) (g:Nat) (vs:Array Value) (hl:vs.size=15) (hp:tmps.getD p undef=.pointer (some ⟨g,0,none⟩)) (ho:zAc w g 30 vs) :
  (results fn tmps).run Tryz.prog w=.ok (.agg vs) w:=by
 rw[zBb h,hp];simp only[asAddr,Sem.run_pure,Result.andThen_ok];rw[run_loadVar_row w g 30 30 vs (0,0) _ ho Tryz.underlying30 rfl (by rw[zEd,hl])]
theorem thousand_gram (w:World) (htab:Tab w):Calls Tryz.prog 232 #[.agg gramU] w fun r w'=>r=.returned (.agg zEc)∧Bw w w':=by
 unfold gramU zEc;obtain⟨V,hV⟩:∃V,V=(w.alloc (.cells #[G #[103,114,97,109],G #[103],I 0,I 1,I 0,I 0,I 0,I 0,I 0,I 0,G #[49],G #[49,48,48,48],G #[48],G #[49],I 1] 30)).alloc (.cells z15 30):=⟨_,rfl⟩;have HB:Hid (Bw w V):=by rw[hV];exact bA.alloc (by simp) _
 have HA:Hid (zAc V w.heap.size 30 #[G #[103,114,97,109],G #[103],I 0,I 1,I 0,I 0,I 0,I 0,I 0,I 0,G #[49],G #[49,48,48,48],G #[48],G #[49],I 1]):=by rw[hV];exact(zAc.new _ _ _).alloc _
 have HR:Hid (zAc V (w.heap.size+1) 30 z15):=by rw[hV];have h:=zAc.new (w.alloc (.cells #[G #[103,114,97,109],G #[103],I 0,I 1,I 0,I 0,I 0,I 0,I 0,I 0,G #[49],G #[49,48,48,48],G #[48],G #[49],I 1] 30)) z15 30;rw[Dm.size_alloc]at h;exact h
 have HTA:Hid (∀W,Below w.heap.size w W→Tab W):=fun W h=>htab.later h
 have HV:=zAb hV;clear hV htab;go_enter Tryz.func232,Tryz.ntmps232
 go_upto_region 1 with fail
 rw[←un HV];clear HV
 go_upto_region 2 with (first
  | (go_at_call 267;go_must(refine(Pf.find_kilo _ (un HTA _ (un HB))).mono ?_;rintro e w1 ⟨rfl,hb⟩;have HA1:=zAb ((un HA).later hb);have HR1:=zAb ((un HR).later hb);have HB1:Hid (Bw w w1):=bt HB hb;clear hb))
  | (refine zAn 291 5 zGx rfl (.tmp 3) (.tmp 7) rfl w1.heap.size #[G #[],G #[],G #[],G #[],.bool false] #[G #[107,105,108,111],G #[107],G #[49,48,48,48],G #[49],.bool false] rfl rfl rfl rfl (zAc.new _ _ _) (by kernel_rfl) ?_))
 obtain⟨V2,hV2⟩:∃V2,V2=(w1.alloc (.cells #[G #[],G #[],G #[],G #[],.bool false] 291)).setRow w1.heap.size #[G #[107,105,108,111],G #[107],G #[49,48,48,48],G #[49],.bool false]:=⟨_,rfl⟩;have hb2:Below w1.heap.size w1 V2:=by rw[hV2];exact below_setRow (zBx _ _) (Nat.le_refl _) _
 have HK2:Hid (zAc V2 w1.heap.size 291 #[G #[107,105,108,111],G #[107],G #[49,48,48,48],G #[49],.bool false]):=by rw[hV2];exact(zAc.new _ _ _).setRow _
 have HA2:=zAb ((un HA1).later hb2);have HR2:=zAb ((un HR1).later hb2);have HB2:Hid (Bw w V2):=bt HB1 hb2;have HNE:Hid (¬w1.heap.size=w.heap.size∧¬w1.heap.size=w.heap.size+1):=(by have:=(un HR1).lt;show _∧_;omega);rw[←hV2];clear hV2 hb2 HA1 HR1 HB1 HA HR HB;generalize w1.heap.size=g3 at *
 have HA3:Hid (zAc V2.drew w.heap.size 30 #[G #[103,114,97,109],G #[103],I 0,I 1,I 0,I 0,I 0,I 0,I 0,I 0,G #[49],G #[49,48,48,48],G #[48],G #[49],I 1]):=un HA2;have HR3:Hid (zAc V2.drew (w.heap.size+1) 30 z15):=un HR2;have HK3:Hid (zAc V2.drew g3 291 #[G #[107,105,108,111],G #[107],G #[49,48,48,48],G #[49],.bool false]):=un HK2;have HB3:Hid (Bw w V2.drew):=(un HB2).drew;clear HA2 HR2 HK2 HB2;have HS0:Hid (V2.drew.cell? ⟨w.heap.size,0,none⟩=some (G #[103,114,97,109])∧V2.drew.cell? ⟨w.heap.size,1,none⟩=some (G #[103])):=⟨(un HA3).ub.c 0 _ rfl,(un HA3).ub.c 1 _ rfl⟩;have HS7:Hid (V2.drew.cell? ⟨g3,0,none⟩=some (G #[107,105,108,111])∧V2.drew.cell? ⟨g3,1,none⟩=some (G #[107])):=⟨(un HK3).ub.c 0 _ rfl,(un HK3).ub.c 1 _ rfl⟩;have HF0:=zAb ((un HA3).ub.f 0 _ rfl);have HF1:=zAb ((un HA3).ub.f 1 _ rfl);refine zAi 11 (fun W'=>W'.cell? ⟨w.heap.size,0,none⟩=some (G #[103,114,97,109])∧W'.cell? ⟨w.heap.size,1,none⟩=some (G #[103])) (fun W'=>W'.cell? ⟨g3,0,none⟩=some (G #[107,105,108,111])∧W'.cell? ⟨g3,1,none⟩=some (G #[107])) 14 rfl (by kernel_rfl) ?_;refine wT7 0 (.pointer (some ⟨g3,0,none⟩)) rfl (Or.inl ⟨by rfl,?_⟩) ⟨un HS0,un HS7⟩ ?_
 ·intro W' hW
  go_split_ands
  go_simp
 refine wT7 1 (G #[107,105,108,111]) rfl (Or.inl ⟨by rfl,?_⟩) ⟨un HS0,un HS7⟩ ?_
 ·intro W' hW
  go_split_ands
  go_simp
 refine wT7 2 (.pointer (some ⟨w.heap.size,0,none⟩)) rfl (Or.inl ⟨by rfl,?_⟩) ⟨un HS0,un HS7⟩ ?_
 ·intro W' hW
  go_split_ands
  go_simp
 refine wT 3 (G #[103,114,97,109]) rfl (Or.inl ⟨by rfl,?_⟩) ⟨un HS0,un HS7⟩ ?_
 ·intro W' hW
  go_split_ands
  go_simp
 refine wT7 4 (G #[107,105,108,111,103,114,97,109]) rfl (Or.inl ⟨by rfl,?_⟩) ⟨un HS0,un HS7⟩ ?_
 ·intro W' hW
  go_split_ands
  go_simp
  decide
 refine wT7 5 (.pointer (some ⟨g3,1,none⟩)) rfl (Or.inl ⟨by rfl,?_⟩) ⟨un HS0,un HS7⟩ ?_
 ·intro W' hW
  go_split_ands
  go_simp
 refine wT7 6 (G #[107]) rfl (Or.inl ⟨by rfl,?_⟩) ⟨un HS0,un HS7⟩ ?_
 ·intro W' hW
  go_split_ands
  go_simp
 refine wT7 7 (.pointer (some ⟨w.heap.size,1,none⟩)) rfl (Or.inl ⟨by rfl,?_⟩) ⟨un HS0,un HS7⟩ ?_
 ·intro W' hW
  go_split_ands
  go_simp
 refine wT 8 (G #[103]) rfl (Or.inl ⟨by rfl,?_⟩) ⟨un HS0,un HS7⟩ ?_
 ·intro W' hW
  go_split_ands
  go_simp
 refine wT7 9 (G #[107,103]) rfl (Or.inl ⟨by rfl,?_⟩) ⟨un HS0,un HS7⟩ ?_
 ·intro W' hW
  go_split_ands
  go_simp
  decide
 refine wT7 10 (.pointer (some ⟨w.heap.size,0,none⟩)) rfl (Or.inl ⟨by rfl,?_⟩) ⟨un HS0,un HS7⟩ ?_
 ·intro W' hW
  go_split_ands
  go_simp
 generalize V2.drew=U at *
 have a0:=(un HS0).1;have a1:=(un HS0).2;have f0:=un HF0;have f1:=un HF1;refine wL 11 rfl rfl (fun K hK=>?_)
 go_simp
 have HK4:=zAb ((un HK3).otherSet (un HNE).1 0 (G #[107,105,108,111,103,114,97,109]));refine hK _ _ ⟨(un HK4).ub.c 0 _ rfl,(un HK4).ub.c 1 _ rfl⟩ ?_;clear hK K;have HA4:=zAb ((un HA3).set 0 (G #[107,105,108,111,103,114,97,109]));have HR4:=zAb ((un HR3).otherSet (show ¬w.heap.size+1=w.heap.size by omega) 0 (G #[107,105,108,111,103,114,97,109]));have HB4:Hid (Bw w (U.setCell ⟨w.heap.size,0,none⟩ (G #[107,105,108,111,103,114,97,109]))):=(un HB3).setCell (p:=⟨w.heap.size,0,none⟩) (Nat.le_refl _) _;clear a0 a1 f0 f1 HA3 HR3 HK3 HB3 HS0 HS7 HF0 HF1;generalize U.setCell ⟨w.heap.size,0,none⟩ (G #[107,105,108,111,103,114,97,109])=U4 at *
 refine wL 12 rfl rfl (fun K hK=>?_)
 go_simp
 refine hK _ _ ⟨(un HK4).ub.c 0 _ rfl,(un HK4).ub.c 1 _ rfl⟩ ?_;clear hK K;have a1:U4.cell? ⟨w.heap.size,1,none⟩=some (G #[103]):=(un HA4).ub.c 1 _ rfl;have f1:U4.frozen? ⟨w.heap.size,1,none⟩=false:=(un HA4).ub.f 1 _ rfl;refine wL 13 rfl rfl (fun K hK=>?_)
 go_simp
 have HK5:=zAb ((un HK4).otherSet (un HNE).1 1 (G #[107,103]));refine hK _ _ ⟨(un HK5).ub.c 0 _ rfl,(un HK5).ub.c 1 _ rfl⟩ ?_;clear hK K;have HA5:=zAb ((un HA4).set 1 (G #[107,103]));have HR5:=zAb ((un HR4).otherSet (show ¬w.heap.size+1=w.heap.size by omega) 1 (G #[107,103]));have HB5:Hid (Bw w (U4.setCell ⟨w.heap.size,1,none⟩ (G #[107,103]))):=(un HB4).setCell (p:=⟨w.heap.size,1,none⟩) (Nat.le_refl _) _;clear a1 f1 HA4 HR4 HK4 HB4;generalize U4.setCell ⟨w.heap.size,1,none⟩ (G #[107,103])=U5 at *
 refine wDn ?_;have HA6:Hid (zAc U5 w.heap.size 30 #[G #[107,105,108,111,103,114,97,109],G #[107,103],I 0,I 1,I 0,I 0,I 0,I 0,I 0,I 0,G #[49],G #[49,48,48,48],G #[48],G #[49],I 1]):=un HA5;clear HA5;have p2:U5.cell? ⟨g3,2,none⟩=some (G #[49,48,48,48]):=(un HK5).ub.c 2 _ rfl;have p3:U5.cell? ⟨g3,3,none⟩=some (G #[49]):=(un HK5).ub.c 3 _ rfl;have q0:U5.cell? ⟨w.heap.size,10,none⟩=some (G #[49]):=(un HA6).ub.c 10 _ rfl;have q1:U5.cell? ⟨w.heap.size,11,none⟩=some (G #[49,48,48,48]):=(un HA6).ub.c 11 _ rfl
 go_upto_region 4 with (go_at_call 28;go_must(refine(mul_kilo _ (un HTA _ (un HB5))).mono ?_;rintro e w6 ⟨rfl,hb⟩;have HA7:=zAb ((un HA6).later hb);have HR7:=zAb ((un HR5).later hb);have HB7:Hid (Bw w w6):=bt HB5 hb;clear hb p2 p3 q0 q1;have q0:w6.cell? ⟨w.heap.size,10,none⟩=some (G #[49]):=(un HA7).ub.c 10 _ rfl;have q1:w6.cell? ⟨w.heap.size,11,none⟩=some (G #[49,48,48,48]):=(un HA7).ub.c 11 _ rfl;have f0:w6.frozen? ⟨w.heap.size,10,none⟩=false:=(un HA7).ub.f 10 _ rfl;have f1:w6.frozen? ⟨w.heap.size,11,none⟩=false:=(un HA7).ub.f 11 _ rfl))
 have HA8:Hid (zAc ((w6.setCell ⟨w.heap.size,10,none⟩ (G #[49])).setCell ⟨w.heap.size,11,none⟩ (G #[49])) w.heap.size 30 #[G #[107,105,108,111,103,114,97,109],G #[107,103],I 0,I 1,I 0,I 0,I 0,I 0,I 0,I 0,G #[49],G #[49],G #[48],G #[49],I 1]):=((un HA7).set 10 _).set 11 _;have HR8:Hid (zAc ((w6.setCell ⟨w.heap.size,10,none⟩ (G #[49])).setCell ⟨w.heap.size,11,none⟩ (G #[49])) (w.heap.size+1) 30 z15):=((un HR7).otherSet (show ¬w.heap.size+1=w.heap.size by omega) 10 _).otherSet (show ¬w.heap.size+1=w.heap.size by omega) 11 _;have HB8:Hid (Bw w ((w6.setCell ⟨w.heap.size,10,none⟩ (G #[49])).setCell ⟨w.heap.size,11,none⟩ (G #[49]))):=((un HB7).setCell (p:=⟨w.heap.size,10,none⟩) (Nat.le_refl _) _).setCell (p:=⟨w.heap.size,11,none⟩) (Nat.le_refl _) _;clear q0 q1 f0 f1 HA7 HR7 HB7;generalize (w6.setCell ⟨w.heap.size,10,none⟩ (G #[49])).setCell ⟨w.heap.size,11,none⟩ (G #[49])=U8 at *
 go_wp2_with (first
  | (refine wpList_load_row rfl 30 (.tmp 1) rfl w.heap.size rfl 30 #[G #[107,105,108,111,103,114,97,109],G #[107,103],I 0,I 1,I 0,I 0,I 0,I 0,I 0,I 0,G #[49],G #[49],G #[48],G #[49],I 1] (0,0) _ (un HA8) Tryz.underlying30 rfl (by kernel_rfl) ?_)
  | (refine zAn 30 15 zEd rfl (.tmp 2) (.tmp 30) rfl (w.heap.size+1) z15 #[G #[107,105,108,111,103,114,97,109],G #[107,103],I 0,I 1,I 0,I 0,I 0,I 0,I 0,I 0,G #[49],G #[49],G #[48],G #[49],I 1] rfl rfl rfl rfl (un HR8) (by kernel_rfl) ?_))
 exact bodyPost_ret (v:=.agg #[G #[107,105,108,111,103,114,97,109],G #[107,103],I 0,I 1,I 0,I 0,I 0,I 0,I 0,I 0,G #[49],G #[49],G #[48],G #[49],I 1]) (res30 Tryz.results232 _ _ (w.heap.size+1) _ rfl rfl ((un HR8).setRow _)) rfl ⟨rfl,below_setRow (un HB8) (by omega) _⟩
theorem zGv (w:World):Calls Tryz.prog 225 #[] w fun r w'=>r=.returned (.agg #[I 0,I 0,I 0,I 0,I 1,I 0,I 0,I 0,I 1000,I 1000])∧Below w.heap.size w w':=by
 obtain⟨V,hV⟩:∃V,V=w.alloc (.cells #[I 0,I 0,I 0,I 0,I 0,I 0,I 0,I 0,I 0,I 0] 235):=⟨_,rfl⟩
 have HR:Hid (zAc V w.heap.size 235 #[I 0,I 0,I 0,I 0,I 0,I 0,I 0,I 0,I 0,I 0]):=by rw[hV];exact zAc.new _ _ _
 have HB:Hid (Below w.heap.size w V):=by rw[hV];exact(Below.refl _ _).alloc (Nat.le_refl _) _
 have HV:=zAb hV
 clear hV
 go_enter Tryz.func225,Tryz.ntmps225
 go_upto_region 1 with fail
 rw[←un HV]
 clear HV
 go_wp2_with fail
 refine(zEx _).mono ?_
 rintro e W ⟨rfl,hb⟩
 have HR1:=zAb ((un HR).later hb);have HB1:=zAb ((un HB).trans (hb.mono (un HB).size))
 clear HR HB hb
 have HR:=HR1;have HB:=HB1
 clear HR1 HB1
 go_wp2_with fail
 refine(gram_made _).mono ?_
 rintro e W ⟨rfl,hb⟩
 have HR1:=zAb ((un HR).later hb);have HB1:=zAb ((un HB).trans (hb.mono (un HB).size))
 clear HR HB hb
 have HR:=HR1;have HB:=HB1
 clear HR1 HB1
 go_wp2_with fail
 refine(zCy _).mono ?_
 rintro e W ⟨rfl,hb⟩
 have HR1:=zAb ((un HR).later hb);have HB1:=zAb ((un HB).trans (hb.mono (un HB).size))
 clear HR HB hb
 have HR:=HR1;have HB:=HB1
 clear HR1 HB1
 go_wp2_with fail
 refine(joule_made _).mono ?_
 rintro e W ⟨rfl,hb⟩
 have HR1:=zAb ((un HR).later hb);have HB1:=zAb ((un HB).trans (hb.mono (un HB).size))
 clear HR HB hb
 have HR:=HR1;have HB:=HB1
 clear HR1 HB1
 go_upto_region 2 with fail
 have HX:Hid (zAc (W.alloc (.cells #[I 2,I 1,I (-2),I 0,I 0,I 0,I 0,I 0,I 1000,I 1000] 235)) W.heap.size 235 #[I 2,I 1,I (-2),I 0,I 0,I 0,I 0,I 0,I 1000,I 1000]∧Below W.heap.size W (W.alloc (.cells #[I 2,I 1,I (-2),I 0,I 0,I 0,I 0,I 0,I 1000,I 1000] 235))):=⟨zAc.new _ _ _,(Below.refl _ _).alloc (Nat.le_refl _) _⟩
 obtain⟨g1,hg1⟩:∃g1,g1=W.heap.size:=⟨_,rfl⟩
 obtain⟨U,hU⟩:∃U,U=W.alloc (.cells #[I 2,I 1,I (-2),I 0,I 0,I 0,I 0,I 0,I 1000,I 1000] 235):=⟨_,rfl⟩
 rw[←hU]at HX ⊢
 rw[←hg1]at HX ⊢
 have hne:¬g1=w.heap.size:=by have:=(un HR).lt;omega
 have HR1:=zAb ((un HR).later (by rw[←hg1];exact(un HX).2));have HB1:=zAb ((un HB).trans (Below.mono (by rw[←hg1];exact(un HX).2:Below W.heap.size W U) (un HB).size))
 have HQ:=zAb (un HX).1
 clear HX HR HB hU hg1
 have HBD:Hid (Below U.heap.size U U.drew):=(Below.refl _ _).drew
 have HSS:Hid (∀W',zAc W' g1 235 #[I 2,I 1,I (-2),I 0,I 0,I 0,I 0,I 0,I 1000,I 1000]→W'.cell? ⟨g1,0,none⟩=some (I 2)∧W'.cell? ⟨g1,1,none⟩=some (I 1)∧W'.cell? ⟨g1,2,none⟩=some (I (-2))∧W'.cell? ⟨g1,3,none⟩=some (I 0)∧W'.cell? ⟨g1,4,none⟩=some (I 0)∧W'.cell? ⟨g1,5,none⟩=some (I 0)∧W'.cell? ⟨g1,6,none⟩=some (I 0)∧W'.cell? ⟨g1,7,none⟩=some (I 0)∧W'.cell? ⟨g1,8,none⟩=some (I 1000)∧W'.cell? ⟨g1,9,none⟩=some (I 1000)):=fun W' h=>⟨h.ub.c 0 _ rfl,h.ub.c 1 _ rfl,h.ub.c 2 _ rfl,h.ub.c 3 _ rfl,h.ub.c 4 _ rfl,h.ub.c 5 _ rfl,h.ub.c 6 _ rfl,h.ub.c 7 _ rfl,h.ub.c 8 _ rfl,h.ub.c 9 _ rfl⟩
 have HR2:=zAb ((un HR1).later (un HBD));have HQ2:=zAb ((un HQ).later (un HBD));have HB2:=zAb ((un HB1).trans ((un HBD).mono (un HB1).size))
 clear HR1 HQ HB1
 have HS0:=zAb (un HSS _ (un HQ2))
 refine zAi 4 (fun W'=>W'.cell? ⟨g1,0,none⟩=some (I 2)∧W'.cell? ⟨g1,1,none⟩=some (I 1)∧W'.cell? ⟨g1,2,none⟩=some (I (-2))∧W'.cell? ⟨g1,3,none⟩=some (I 0)∧W'.cell? ⟨g1,4,none⟩=some (I 0)∧W'.cell? ⟨g1,5,none⟩=some (I 0)∧W'.cell? ⟨g1,6,none⟩=some (I 0)∧W'.cell? ⟨g1,7,none⟩=some (I 0)∧W'.cell? ⟨g1,8,none⟩=some (I 1000)∧W'.cell? ⟨g1,9,none⟩=some (I 1000)) (fun _=>True) 5 rfl (by kernel_rfl) ?_
 refine zAd (i:=0) (oi:=_) (v:=.agg #[I 2,I 1,I (-2),I 0,I 0,I 0,I 0,I 0,I 1000,I 1000]) rfl (by kernel_rfl) (by kernel_rfl) (by kernel_rfl) (by kernel_rfl) (fun _ _ _ h=>h) (Or.inl ⟨by rfl,?_⟩) ⟨un HS0,trivial⟩ ?_
 ·intro W' hW
  go_split_ands
  go_simp
 clear HBD HS0
 generalize U.drew=U0 at *
 refine zAg (i:=1) (o:=_) (by kernel_rfl) rfl rfl (fun K hK=>?_)
 go_simp
 refine hK _ _ ⟨un HSS _ (un HQ2),trivial⟩ ?_
 clear hK K
 refine zAg (i:=2) (o:=_) (by kernel_rfl) rfl rfl (fun K hK=>?_)
 go_simp
 refine(zDx 2 1 (-2) 0 (-1) 0 0 0 _).mono ?_
 rintro e U1 ⟨rfl,hb⟩
 have HR3:=zAb ((un HR2).later hb);have HQ3:=zAb ((un HQ2).later hb);have HB3:=zAb ((un HB2).trans (hb.mono (un HB2).size))
 clear hb HR2 HQ2 HB2
 refine hK _ _ ⟨un HSS _ (un HQ3),trivial⟩ ?_
 clear hK K
 refine zAg (i:=3) (o:=_) (by kernel_rfl) rfl rfl (fun K hK=>?_)
 go_simp
 refine(zFm 2 1 (-2) 0 0 0 0 0 1000 1000 2 1 (-2) 0 (-1) 0 0 0 1 1 0 0 0 0 1 0 0 0 1000 1000 _ (by decide +kernel) (by decide +kernel) (by decide +kernel)).mono ?_
 rintro e U2 ⟨rfl,hb⟩
 have HR4:=zAb ((un HR3).later hb);have HQ4:=zAb ((un HQ3).later hb);have HB4:=zAb ((un HB3).trans (hb.mono (un HB3).size))
 clear hb HR3 HQ3 HB3
 refine hK _ _ ⟨un HSS _ (un HQ4),trivial⟩ ?_
 clear hK K
 refine zAj (i:=4) (o:=_) (by kernel_rfl) rfl rfl (by kernel_rfl) (fun K hK=>?_)
 refine wp_store_row 235 (.tmp 0) (.tmp 9) rfl w.heap.size #[I 0,I 0,I 0,I 0,I 1,I 0,I 0,I 0,I 1000,I 1000] rfl rfl 235 _ (un HR4) (by rw[zCv];rfl) rfl (by kernel_rfl) (hK _ _ trivial ?_)
 clear hK K
 refine zAm (by kernel_rfl) ?_
 go_wp2_with fail
 exact bodyPost_ret (v:=.agg #[I 0,I 0,I 0,I 0,I 1,I 0,I 0,I 0,I 1000,I 1000]) (res43 Tryz.results225 _ _ w.heap.size _ rfl rfl ((un HR4).setRow _)) rfl ⟨rfl,below_setRow (un HB4) (Nat.le_refl _) _⟩
theorem candela_made (w:World):Calls Tryz.prog 224 #[] w fun r w'=>r=.returned (.agg #[I 0,I 0,I 0,I 0,I 0,I 0,I 1,I 0,I 1000,I 1000])∧Below w.heap.size w w':=by
 obtain⟨V,hV⟩:∃V,V=w.alloc (.cells #[I 0,I 0,I 0,I 0,I 0,I 0,I 0,I 0,I 0,I 0] 235):=⟨_,rfl⟩
 have HR:Hid (zAc V w.heap.size 235 #[I 0,I 0,I 0,I 0,I 0,I 0,I 0,I 0,I 0,I 0]):=by rw[hV];exact zAc.new _ _ _
 have HB:Hid (Below w.heap.size w V):=by rw[hV];exact(Below.refl _ _).alloc (Nat.le_refl _) _
 have HV:=zAb hV
 clear hV
 go_enter Tryz.func224,Tryz.ntmps224
 go_upto_region 1 with fail
 rw[←un HV]
 clear HV
 go_wp2_with fail
 refine(zEx _).mono ?_
 rintro e W ⟨rfl,hb⟩
 have HR1:=zAb ((un HR).later hb);have HB1:=zAb ((un HB).trans (hb.mono (un HB).size))
 clear HR HB hb
 have HR:=HR1;have HB:=HB1
 clear HR1 HB1
 go_wp2_with fail
 refine(gram_made _).mono ?_
 rintro e W ⟨rfl,hb⟩
 have HR1:=zAb ((un HR).later hb);have HB1:=zAb ((un HB).trans (hb.mono (un HB).size))
 clear HR HB hb
 have HR:=HR1;have HB:=HB1
 clear HR1 HB1
 go_wp2_with fail
 refine(zCy _).mono ?_
 rintro e W ⟨rfl,hb⟩
 have HR1:=zAb ((un HR).later hb);have HB1:=zAb ((un HB).trans (hb.mono (un HB).size))
 clear HR HB hb
 have HR:=HR1;have HB:=HB1
 clear HR1 HB1
 go_wp2_with fail
 refine(joule_made _).mono ?_
 rintro e W ⟨rfl,hb⟩
 have HR1:=zAb ((un HR).later hb);have HB1:=zAb ((un HB).trans (hb.mono (un HB).size))
 clear HR HB hb
 have HR:=HR1;have HB:=HB1
 clear HR1 HB1
 go_wp2_with fail
 refine(zCy _).mono ?_
 rintro e W ⟨rfl,hb⟩
 have HR1:=zAb ((un HR).later hb);have HB1:=zAb ((un HB).trans (hb.mono (un HB).size))
 clear HR HB hb
 have HR:=HR1;have HB:=HB1
 clear HR1 HB1
 go_wp2_with fail
 refine(zFm 2 1 (-2) 0 0 0 0 0 1000 1000 0 0 1 0 0 0 0 0 1 1 2 1 (-3) 0 0 0 0 0 1000 1000 _ (by decide +kernel) (by decide +kernel) (by decide +kernel)).mono ?_
 rintro e W ⟨rfl,hb⟩
 have HR1:=zAb ((un HR).later hb);have HB1:=zAb ((un HB).trans (hb.mono (un HB).size))
 clear HR HB hb
 have HR:=HR1;have HB:=HB1
 clear HR1 HB1
 go_upto_region 2 with fail
 have HX:Hid (zAc (W.alloc (.cells #[I 2,I 1,I (-3),I 0,I 0,I 0,I 0,I 0,I 1000,I 1000] 235)) W.heap.size 235 #[I 2,I 1,I (-3),I 0,I 0,I 0,I 0,I 0,I 1000,I 1000]∧Below W.heap.size W (W.alloc (.cells #[I 2,I 1,I (-3),I 0,I 0,I 0,I 0,I 0,I 1000,I 1000] 235))):=⟨zAc.new _ _ _,(Below.refl _ _).alloc (Nat.le_refl _) _⟩
 obtain⟨g1,hg1⟩:∃g1,g1=W.heap.size:=⟨_,rfl⟩
 obtain⟨U,hU⟩:∃U,U=W.alloc (.cells #[I 2,I 1,I (-3),I 0,I 0,I 0,I 0,I 0,I 1000,I 1000] 235):=⟨_,rfl⟩
 rw[←hU]at HX ⊢
 rw[←hg1]at HX ⊢
 have hne:¬g1=w.heap.size:=by have:=(un HR).lt;omega
 have HR1:=zAb ((un HR).later (by rw[←hg1];exact(un HX).2));have HB1:=zAb ((un HB).trans (Below.mono (by rw[←hg1];exact(un HX).2:Below W.heap.size W U) (un HB).size))
 have HQ:=zAb (un HX).1
 clear HX HR HB hU hg1
 have HBD:Hid (Below U.heap.size U U.drew):=(Below.refl _ _).drew
 have HSS:Hid (∀W',zAc W' g1 235 #[I 2,I 1,I (-3),I 0,I 0,I 0,I 0,I 0,I 1000,I 1000]→W'.cell? ⟨g1,0,none⟩=some (I 2)∧W'.cell? ⟨g1,1,none⟩=some (I 1)∧W'.cell? ⟨g1,2,none⟩=some (I (-3))∧W'.cell? ⟨g1,3,none⟩=some (I 0)∧W'.cell? ⟨g1,4,none⟩=some (I 0)∧W'.cell? ⟨g1,5,none⟩=some (I 0)∧W'.cell? ⟨g1,6,none⟩=some (I 0)∧W'.cell? ⟨g1,7,none⟩=some (I 0)∧W'.cell? ⟨g1,8,none⟩=some (I 1000)∧W'.cell? ⟨g1,9,none⟩=some (I 1000)):=fun W' h=>⟨h.ub.c 0 _ rfl,h.ub.c 1 _ rfl,h.ub.c 2 _ rfl,h.ub.c 3 _ rfl,h.ub.c 4 _ rfl,h.ub.c 5 _ rfl,h.ub.c 6 _ rfl,h.ub.c 7 _ rfl,h.ub.c 8 _ rfl,h.ub.c 9 _ rfl⟩
 have HR2:=zAb ((un HR1).later (un HBD));have HQ2:=zAb ((un HQ).later (un HBD));have HB2:=zAb ((un HB1).trans ((un HBD).mono (un HB1).size))
 clear HR1 HQ HB1
 have HS0:=zAb (un HSS _ (un HQ2))
 refine zAi 4 (fun W'=>W'.cell? ⟨g1,0,none⟩=some (I 2)∧W'.cell? ⟨g1,1,none⟩=some (I 1)∧W'.cell? ⟨g1,2,none⟩=some (I (-3))∧W'.cell? ⟨g1,3,none⟩=some (I 0)∧W'.cell? ⟨g1,4,none⟩=some (I 0)∧W'.cell? ⟨g1,5,none⟩=some (I 0)∧W'.cell? ⟨g1,6,none⟩=some (I 0)∧W'.cell? ⟨g1,7,none⟩=some (I 0)∧W'.cell? ⟨g1,8,none⟩=some (I 1000)∧W'.cell? ⟨g1,9,none⟩=some (I 1000)) (fun _=>True) 5 rfl (by kernel_rfl) ?_
 refine zAd (i:=2) (oi:=_) (v:=.agg #[I 2,I 1,I (-3),I 0,I 0,I 0,I 0,I 0,I 1000,I 1000]) rfl (by kernel_rfl) (by kernel_rfl) (by kernel_rfl) (by kernel_rfl) (fun _ _ _ h=>h) (Or.inl ⟨by rfl,?_⟩) ⟨un HS0,trivial⟩ ?_
 ·intro W' hW
  go_split_ands
  go_simp
 clear HBD HS0
 generalize U.drew=U0 at *
 refine zAg (i:=0) (o:=_) (by kernel_rfl) rfl rfl (fun K hK=>?_)
 go_simp
 refine hK _ _ ⟨un HSS _ (un HQ2),trivial⟩ ?_
 clear hK K
 refine zAg (i:=1) (o:=_) (by kernel_rfl) rfl rfl (fun K hK=>?_)
 go_simp
 refine(zDx (-2) (-1) 3 0 0 0 1 0 _).mono ?_
 rintro e U1 ⟨rfl,hb⟩
 have HR3:=zAb ((un HR2).later hb);have HQ3:=zAb ((un HQ2).later hb);have HB3:=zAb ((un HB2).trans (hb.mono (un HB2).size))
 clear hb HR2 HQ2 HB2
 refine hK _ _ ⟨un HSS _ (un HQ3),trivial⟩ ?_
 clear hK K
 refine zAg (i:=3) (o:=_) (by kernel_rfl) rfl rfl (fun K hK=>?_)
 go_simp
 refine(zDf (-2) (-1) 3 0 0 0 1 0 1 1 2 1 (-3) 0 0 0 0 0 1000 1000 0 0 0 0 0 0 1 0 1000 1000 _ (by decide +kernel) (by decide +kernel) (by decide +kernel)).mono ?_
 rintro e U2 ⟨rfl,hb⟩
 have HR4:=zAb ((un HR3).later hb);have HQ4:=zAb ((un HQ3).later hb);have HB4:=zAb ((un HB3).trans (hb.mono (un HB3).size))
 clear hb HR3 HQ3 HB3
 refine hK _ _ ⟨un HSS _ (un HQ4),trivial⟩ ?_
 clear hK K
 refine zAj (i:=4) (o:=_) (by kernel_rfl) rfl rfl (by kernel_rfl) (fun K hK=>?_)
 refine wp_store_row 235 (.tmp 0) (.tmp 11) rfl w.heap.size #[I 0,I 0,I 0,I 0,I 0,I 0,I 1,I 0,I 1000,I 1000] rfl rfl 235 _ (un HR4) (by rw[zCv];rfl) rfl (by kernel_rfl) (hK _ _ trivial ?_)
 clear hK K
 refine zAm (by kernel_rfl) ?_
 go_wp2_with fail
 exact bodyPost_ret (v:=.agg #[I 0,I 0,I 0,I 0,I 0,I 0,I 1,I 0,I 1000,I 1000]) (res43 Tryz.results224 _ _ w.heap.size _ rfl rfl ((un HR4).setRow _)) rfl ⟨rfl,below_setRow (un HB4) (Nat.le_refl _) _⟩
def nth8 (l:List Int) (k:Nat):Int:=l.getD k 0
theorem told_0 (w:World) (htab:Tab w):Calls Tryz.prog 159 #[.agg #[G #[98,105,116],G #[98],I 3,.func (.func 218) #[] #[]]] w fun r w'=>r=.returned (.agg #[G #[98,105,116],G #[98],I 0,I 0,I 0,I 0,I 0,I 0,I 0,I 1,G #[49],G #[49],G #[48],G #[49],I 3])∧Bw w w' :=
 toldB (nth8 [0,0,0,0,0,0,0,1]) 1 1 _ _ _ _ _ _ w (fun _=>by kernel_rfl) (fun W=>bit_made W) (fun W hb=>zCa 0 0 0 0 0 0 0 1 1 1 (1) _ _ W (by decide) (by decide) (by decide +kernel) (by decide +kernel) zAz (htab.later hb)) (fun W hb=>zFc W (htab.later hb))
theorem told_1 (w:World) (htab:Tab w):Calls Tryz.prog 159 #[.agg #[G #[109,111,108,101],G #[109,111,108],I 1,.func (.func 219) #[] #[]]] w fun r w'=>r=.returned (.agg #[G #[109,111,108,101],G #[109,111,108],I 0,I 0,I 0,I 0,I 0,I 1,I 0,I 0,G #[49],G #[49],G #[48],G #[49],I 1])∧Bw w w' :=
 toldB (nth8 [0,0,0,0,0,1,0,0]) 1 1 _ _ _ _ _ _ w (fun _=>by kernel_rfl) (fun W=>mole_made W) (fun W hb=>zCa 0 0 0 0 0 1 0 0 1 1 (1) _ _ W (by decide) (by decide) (by decide +kernel) (by decide +kernel) zAz (htab.later hb)) (fun W hb=>zFc W (htab.later hb))
theorem told_2 (w:World) (htab:Tab w):Calls Tryz.prog 159 #[.agg #[G #[115,101,99,111,110,100],G #[115],I 1,.func (.func 220) #[] #[]]] w fun r w'=>r=.returned (.agg #[G #[115,101,99,111,110,100],G #[115],I 0,I 0,I 1,I 0,I 0,I 0,I 0,I 0,G #[49],G #[49],G #[48],G #[49],I 1])∧Bw w w' :=
 toldB (nth8 [0,0,1,0,0,0,0,0]) 1 1 _ _ _ _ _ _ w (fun _=>by kernel_rfl) (fun W=>zCy W) (fun W hb=>zCa 0 0 1 0 0 0 0 0 1 1 (1) _ _ W (by decide) (by decide) (by decide +kernel) (by decide +kernel) zAz (htab.later hb)) (fun W hb=>zFc W (htab.later hb))
theorem told_3 (w:World) (htab:Tab w):Calls Tryz.prog 159 #[.agg #[G #[97,109,112,101,114,101],G #[65],I 1,.func (.func 221) #[] #[]]] w fun r w'=>r=.returned (.agg #[G #[97,109,112,101,114,101],G #[65],I 0,I 0,I 0,I 1,I 0,I 0,I 0,I 0,G #[49],G #[49],G #[48],G #[49],I 1])∧Bw w w' :=
 toldB (nth8 [0,0,0,1,0,0,0,0]) 1 1 _ _ _ _ _ _ w (fun _=>by kernel_rfl) (fun W=>ampere_made W) (fun W hb=>zCa 0 0 0 1 0 0 0 0 1 1 (1) _ _ W (by decide) (by decide) (by decide +kernel) (by decide +kernel) zAz (htab.later hb)) (fun W hb=>zFc W (htab.later hb))
theorem told_4 (w:World) (htab:Tab w):Calls Tryz.prog 159 #[.agg #[G #[109,101,116,114,101],G #[109],I 1,.func (.func 222) #[] #[]]] w fun r w'=>r=.returned (.agg #[G #[109,101,116,114,101],G #[109],I 1,I 0,I 0,I 0,I 0,I 0,I 0,I 0,G #[49],G #[49],G #[48],G #[49],I 1])∧Bw w w' :=
 toldB (nth8 [1,0,0,0,0,0,0,0]) 1 1 _ _ _ _ _ _ w (fun _=>by kernel_rfl) (fun W=>zEx W) (fun W hb=>zCa 1 0 0 0 0 0 0 0 1 1 (1) _ _ W (by decide) (by decide) (by decide +kernel) (by decide +kernel) zAz (htab.later hb)) (fun W hb=>zFc W (htab.later hb))
theorem told_5 (w:World) (htab:Tab w):Calls Tryz.prog 159 #[.agg #[G #[103,114,97,109],G #[103],I 1,.func (.func 223) #[] #[]]] w fun r w'=>r=.returned (.agg #[G #[103,114,97,109],G #[103],I 0,I 1,I 0,I 0,I 0,I 0,I 0,I 0,G #[49],G #[49,48,48,48],G #[48],G #[49],I 1])∧Bw w w' :=
 toldB (nth8 [0,1,0,0,0,0,0,0]) 1 1000 _ _ _ _ _ _ w (fun _=>by kernel_rfl) (fun W=>gram_made W) (fun W hb=>zCa 0 1 0 0 0 0 0 0 1 1000 (1 / 1000) _ _ W (by decide) (by decide) (by decide +kernel) (by decide +kernel) isR_milli (htab.later hb)) (fun W hb=>zFc W (htab.later hb))
theorem told_6 (w:World) (htab:Tab w):Calls Tryz.prog 159 #[.agg #[G #[99,97,110,100,101,108,97],G #[99,100],I 1,.func (.func 224) #[] #[]]] w fun r w'=>r=.returned (.agg #[G #[99,97,110,100,101,108,97],G #[99,100],I 0,I 0,I 0,I 0,I 0,I 0,I 1,I 0,G #[49],G #[49],G #[48],G #[49],I 1])∧Bw w w' :=
 toldB (nth8 [0,0,0,0,0,0,1,0]) 1000 1000 _ _ _ _ _ _ w (fun _=>by kernel_rfl) (fun W=>candela_made W) (fun W hb=>zCa 0 0 0 0 0 0 1 0 1000 1000 (1) _ _ W (by decide) (by decide) (by decide +kernel) (by decide +kernel) zAz (htab.later hb)) (fun W hb=>zFc W (htab.later hb))
theorem told_7 (w:World) (htab:Tab w):Calls Tryz.prog 159 #[.agg #[G #[107,101,108,118,105,110],G #[75],I 1,.func (.func 225) #[] #[]]] w fun r w'=>r=.returned (.agg #[G #[107,101,108,118,105,110],G #[75],I 0,I 0,I 0,I 0,I 1,I 0,I 0,I 0,G #[49],G #[49],G #[48],G #[49],I 1])∧Bw w w' :=
 toldB (nth8 [0,0,0,0,1,0,0,0]) 1000 1000 _ _ _ _ _ _ w (fun _=>by kernel_rfl) (fun W=>zGv W) (fun W hb=>zCa 0 0 0 0 1 0 0 0 1000 1000 (1) _ _ W (by decide) (by decide) (by decide +kernel) (by decide +kernel) zAz (htab.later hb)) (fun W hb=>zFc W (htab.later hb))
structure Sc where
 nm:ByteArray
 sy:ByteArray
 tk:Int
 f:Nat
 u:Array Value
def sct:Nat→Sc
 | 0=>⟨⟨#[98,105,116]⟩,⟨#[98]⟩,3,218,#[G #[98,105,116],G #[98],I 0,I 0,I 0,I 0,I 0,I 0,I 0,I 1,G #[49],G #[49],G #[48],G #[49],I 3]⟩
 | 1=>⟨⟨#[109,111,108,101]⟩,⟨#[109,111,108]⟩,1,219,#[G #[109,111,108,101],G #[109,111,108],I 0,I 0,I 0,I 0,I 0,I 1,I 0,I 0,G #[49],G #[49],G #[48],G #[49],I 1]⟩
 | 2=>⟨⟨#[115,101,99,111,110,100]⟩,⟨#[115]⟩,1,220,#[G #[115,101,99,111,110,100],G #[115],I 0,I 0,I 1,I 0,I 0,I 0,I 0,I 0,G #[49],G #[49],G #[48],G #[49],I 1]⟩
 | 3=>⟨⟨#[97,109,112,101,114,101]⟩,⟨#[65]⟩,1,221,#[G #[97,109,112,101,114,101],G #[65],I 0,I 0,I 0,I 1,I 0,I 0,I 0,I 0,G #[49],G #[49],G #[48],G #[49],I 1]⟩
 | 4=>⟨⟨#[109,101,116,114,101]⟩,⟨#[109]⟩,1,222,#[G #[109,101,116,114,101],G #[109],I 1,I 0,I 0,I 0,I 0,I 0,I 0,I 0,G #[49],G #[49],G #[48],G #[49],I 1]⟩
 | 5=>⟨⟨#[103,114,97,109]⟩,⟨#[103]⟩,1,223,#[G #[103,114,97,109],G #[103],I 0,I 1,I 0,I 0,I 0,I 0,I 0,I 0,G #[49],G #[49,48,48,48],G #[48],G #[49],I 1]⟩
 | 6=>⟨⟨#[99,97,110,100,101,108,97]⟩,⟨#[99,100]⟩,1,224,#[G #[99,97,110,100,101,108,97],G #[99,100],I 0,I 0,I 0,I 0,I 0,I 0,I 1,I 0,G #[49],G #[49],G #[48],G #[49],I 1]⟩
 | _=>⟨⟨#[107,101,108,118,105,110]⟩,⟨#[75]⟩,1,225,#[G #[107,101,108,118,105,110],G #[75],I 0,I 0,I 0,I 0,I 1,I 0,I 0,I 0,G #[49],G #[49],G #[48],G #[49],I 1]⟩
theorem told_sc:∀k,k<8→∀W,Tab W→Calls Tryz.prog 159 #[.agg #[.string (sct k).nm,.string (sct k).sy,I (sct k).tk,.func (.func (sct k).f) #[] #[]]] W fun r w'=>r=.returned (.agg (sct k).u)∧Bw W w'
 | 0,_,W,ht=>told_0 W ht
 | 1,_,W,ht=>told_1 W ht
 | 2,_,W,ht=>told_2 W ht
 | 3,_,W,ht=>told_3 W ht
 | 4,_,W,ht=>told_4 W ht
 | 5,_,W,ht=>told_5 W ht
 | 6,_,W,ht=>told_6 W ht
 | 7,_,W,ht=>told_7 W ht
 | n+8,h,_,_=>absurd h (by omega)
theorem size_sc:∀k,(sct k).u.size=15
 | 0=>rfl
 | 1=>rfl
 | 2=>rfl
 | 3=>rfl
 | 4=>rfl
 | 5=>rfl
 | 6=>rfl
 | _+7=>rfl
theorem ones_sc:∀k,(sct k).u.all (·.oneCell')=true
 | 0=>by kernel_rfl
 | 1=>by kernel_rfl
 | 2=>by kernel_rfl
 | 3=>by kernel_rfl
 | 4=>by kernel_rfl
 | 5=>by kernel_rfl
 | 6=>by kernel_rfl
 | _+7=>by kernel_rfl
structure R4 (W:World) (g k:Nat):Prop where
 c0:W.cell? ⟨g,k*4,none⟩=some (.string (sct k).nm)
 c1:W.cell? ⟨g,k*4+1,none⟩=some (.string (sct k).sy)
 c2:W.cell? ⟨g,k*4+2,none⟩=some (I (sct k).tk)
 c3:W.cell? ⟨g,k*4+3,none⟩=some (.func (.func (sct k).f) #[] #[])
theorem R4.later {W V:World} {B g k:Nat} (h:R4 W g k) (hb:Below B W V) (hg:g<B):R4 V g k :=
 ⟨(hb.cell (p:=⟨g,k*4,none⟩) hg).trans h.c0,(hb.cell (p:=⟨g,k*4+1,none⟩) hg).trans h.c1,(hb.cell (p:=⟨g,k*4+2,none⟩) hg).trans h.c2,(hb.cell (p:=⟨g,k*4+3,none⟩) hg).trans h.c3⟩
def zCe:Array Value:=#[G #[98,105,116],G #[98],I 3,.func (.func 218) #[] #[],G #[109,111,108,101],G #[109,111,108],I 1,.func (.func 219) #[] #[],G #[115,101,99,111,110,100],G #[115],I 1,.func (.func 220) #[] #[],G #[97,109,112,101,114,101],G #[65],I 1,.func (.func 221) #[] #[],G #[109,101,116,114,101],G #[109],I 1,.func (.func 222) #[] #[],G #[103,114,97,109],G #[103],I 1,.func (.func 223) #[] #[],G #[99,97,110,100,101,108,97],G #[99,100],I 1,.func (.func 224) #[] #[],G #[107,101,108,118,105,110],G #[75],I 1,.func (.func 225) #[] #[]]
theorem zEm (w:World):Calls Tryz.prog 157 #[] w fun r w'=>r=.returned (.slice (some ⟨w.heap.size,0,none⟩) 8 8)∧w'=w.alloc (.cells zCe 171):=by
 go_enter Tryz.func157,Tryz.ntmps157
 go_wp2
 go_ret
 exact⟨rfl,rfl⟩
theorem rows8_at (W:World):∀k,k<8→R4 (W.alloc (.cells zCe 171)) W.heap.size k
 | 0,_=>⟨(zAc.new W zCe 171).ub.c 0 _ rfl,(zAc.new W zCe 171).ub.c 1 _ rfl,(zAc.new W zCe 171).ub.c 2 _ rfl,(zAc.new W zCe 171).ub.c 3 _ rfl⟩
 | 1,_=>⟨(zAc.new W zCe 171).ub.c 4 _ rfl,(zAc.new W zCe 171).ub.c 5 _ rfl,(zAc.new W zCe 171).ub.c 6 _ rfl,(zAc.new W zCe 171).ub.c 7 _ rfl⟩
 | 2,_=>⟨(zAc.new W zCe 171).ub.c 8 _ rfl,(zAc.new W zCe 171).ub.c 9 _ rfl,(zAc.new W zCe 171).ub.c 10 _ rfl,(zAc.new W zCe 171).ub.c 11 _ rfl⟩
 | 3,_=>⟨(zAc.new W zCe 171).ub.c 12 _ rfl,(zAc.new W zCe 171).ub.c 13 _ rfl,(zAc.new W zCe 171).ub.c 14 _ rfl,(zAc.new W zCe 171).ub.c 15 _ rfl⟩
 | 4,_=>⟨(zAc.new W zCe 171).ub.c 16 _ rfl,(zAc.new W zCe 171).ub.c 17 _ rfl,(zAc.new W zCe 171).ub.c 18 _ rfl,(zAc.new W zCe 171).ub.c 19 _ rfl⟩
 | 5,_=>⟨(zAc.new W zCe 171).ub.c 20 _ rfl,(zAc.new W zCe 171).ub.c 21 _ rfl,(zAc.new W zCe 171).ub.c 22 _ rfl,(zAc.new W zCe 171).ub.c 23 _ rfl⟩
 | 6,_=>⟨(zAc.new W zCe 171).ub.c 24 _ rfl,(zAc.new W zCe 171).ub.c 25 _ rfl,(zAc.new W zCe 171).ub.c 26 _ rfl,(zAc.new W zCe 171).ub.c 27 _ rfl⟩
 | 7,_=>⟨(zAc.new W zCe 171).ub.c 28 _ rfl,(zAc.new W zCe 171).ub.c 29 _ rfl,(zAc.new W zCe 171).ub.c 30 _ rfl,(zAc.new W zCe 171).ub.c 31 _ rfl⟩
 | n+8,h=>absurd h (by omega)
def zGj (s nm sy:ByteArray):Bool:=nm.toList == s.toList || sy.toList == s.toList
theorem zEe (nm sy:ByteArray) (tk:Int) (fv:Value) (s:ByteArray) (b:Nat) (w:World) (hb:w.cell? ⟨b,0,none⟩=some (.string s)) (hlt:b<w.heap.size):Calls Tryz.prog 156 #[.agg #[.string nm,.string sy,I tk,fv],.pointer (some ⟨b,0,none⟩)] w fun r w'=>r=.returned (.bool (zGj s nm sy))∧Bw w w':=by
 unfold zGj;go_enter Tryz.func156,Tryz.ntmps156
 go_wp2_with fail
 all_goals
  go_ret
  refine⟨?_,bA⟩
  first|rfl|(simp[*];done)|(simp_all;done)
def scB (s:ByteArray) (k:Nat):Bool:=zGj s (sct k).nm (sct k).sy
def zBc (p:Nat→Bool) (j:Int):Prop:=(∃k:Nat,k<8∧j=(k:Int)∧p k=true∧∀i,i<k→p i=false)∨(j=-1∧∀i,i<8→p i=false)
theorem zEw {p:Nat→Bool} {k:Nat} (h:∀i,i<k→p i=false) (hk:p k=false):∀i,i<k+1→p i=false:=fun i hi=>by
 by_cases e:i=k
 ·rw[e];exact hk
 ·exact h i (by omega)
theorem zFz (s:ByteArray) (g cap b:Nat) (w:World) (hr:∀k,k<8→R4 w g k) (hg:g<w.heap.size) (hb:w.cell? ⟨b,0,none⟩=some (.string s)) (hlt:b<w.heap.size) :
 Calls Tryz.prog 158 #[.slice (some ⟨g,0,none⟩) 8 cap,.func (.func 156) #[] #[.pointer (some ⟨b,0,none⟩)]] w fun r w'=>∃j:Int,r=.returned (I j)∧zBc (scB s) j∧Bw w w':=by
 have HR:=zAb hr;have HBC:=zAb hb;clear hr hb;go_enter Tryz.func158,Tryz.ntmps158
 go_wp2_with fail
 go_loopw [8] (fun s8 wr=>∃(k:Nat),k≤8∧s8=I (k:Int)∧Hid (∀i,i<k→scB s i=false)∧Hid (Bw w wr)) (fun s8 _=>8 - (intOf s8).toNat)
 case atStart=>exact⟨0,by omega,rfl,fun i hi=>absurd hi (by omega),Below.refl _ _⟩
 case round=>
  obtain⟨k,hk,rfl,HN,HB⟩:=hrel
  by_cases hk4:k<8
  ·have hkI:(k:Int)<8:=by omega
   have hk0:(0:Int)≤(k:Int):=by omega
   have hrow:=(un HR k hk4).later (un HB) hg;have c0:=hrow.c0;have c1:=hrow.c1;have c2:=hrow.c2;have c3:=hrow.c3;clear hrow
   have HC:Hid (∀W,Below wr.heap.size wr W→Calls Tryz.prog 156 #[.agg #[.string (sct k).nm,.string (sct k).sy,I (sct k).tk,.func (.func (sct k).f) #[] #[]],.pointer (some ⟨b,0,none⟩)] W fun r w'=>r=.returned (.bool (scB s k))∧Bw W w'):=fun W hW=>
    zEe _ _ _ _ s b W ((bt HB hW).cell (p:=⟨b,0,none⟩) hlt |>.trans (un HBC)) (Nat.lt_of_lt_of_le hlt ((bt HB hW).size))
   have HNK:=zAb (fun (e:scB s k=false)=>zEw (un HN) e);have HYK:=zAb (fun (e:scB s k=true)=>(Or.inl ⟨k,hk4,rfl,e,un HN⟩:zBc (scB s) (k:Int)));generalize (sct k).nm=nm at *
   generalize (sct k).sy=sy at *
   generalize (sct k).tk=tk at *
   generalize (sct k).f=f at *
   by_cases hB:scB s k=true
   ·have HJ:=zAb (un HYK hB)
    rw[hB]at HC;clear HNK HYK hB
    go_wp2_with (go_at_call 156;go_must(refine(un HC _ (Below.refl _ _)).mono ?_;rintro e wt ⟨rfl,hbt⟩;have HBT:=zAb hbt;clear hbt))
    go_ret
    exact⟨_,rfl,un HJ,(un HB).trans ((un HBT).mono (un HB).size)⟩
   ·have hB':scB s k=false:=by simpa using hB
    have HJ:=zAb (un HNK hB');rw[hB']at HC;clear HNK HYK hB hB'
    go_wp2_with (go_at_call 156;go_must(refine(un HC _ (Below.refl _ _)).mono ?_;rintro e wt ⟨rfl,hbt⟩;have HBT:=zAb hbt;clear hbt))
    go_roundw
    case rel=>exact⟨k+1,by omega,by go_num,HJ,(un HB).trans ((un HBT).mono (un HB).size)⟩
    case measure=>simp[intOf];omega
  ·have hkI:¬(k:Int)<8:=by omega
   go_wp2_with fail
   go_ret
   exact⟨-1,rfl,Or.inr ⟨rfl,fun i hi=>un HN i (by omega)⟩,un HB⟩
theorem zCi {p:Nat→Bool} {i j:Int} (h1:zBc p i) (h2:zBc p j):i=j:=by
 rcases h1 with ⟨a,ha,rfl,pa,qa⟩|⟨rfl,na⟩<;>rcases h2 with ⟨c,hc,rfl,pc,qc⟩|⟨rfl,nc⟩
 ·rcases Nat.lt_trichotomy a c with h|h|h
  ·rw[qc a h]at pa;cases pa
  ·rw[h]
  ·rw[qa c h]at pc;cases pc
 ·rw[nc a ha]at pa;cases pa
 ·rw[na c hc]at pc;cases pc
 ·rfl
def FindV (p:Nat→Bool) (v:Value):Prop:=(∃k:Nat,k<8∧zBc p (k:Int)∧v=.tuple #[.agg (sct k).u,.bool true])∨(zBc p (-1)∧v=.tuple #[.agg #[G #[],G #[],I 0,I 0,I 0,I 0,I 0,I 0,I 0,I 0,G #[],G #[],G #[],G #[],I 0],.bool false])
theorem FindV.det {p:Nat→Bool} {v u:Value} (h1:FindV p v) (h2:FindV p u):v=u:=by
 rcases h1 with ⟨a,ha,fa,rfl⟩|⟨fa,rfl⟩<;>rcases h2 with ⟨c,hc,fc,rfl⟩|⟨fc,rfl⟩
 ·have:=zCi fa fc
  have e:a=c:=by omega
  rw[e]
 ·have:=zCi fa fc;omega
 ·have:=zCi fa fc;omega
 ·rfl
theorem find_any (s:ByteArray) (w:World) (htab:Tab w):Calls Tryz.prog 70 #[.string s] w fun r w'=>∃v,r=.returned v∧FindV (scB s) v∧Bw w w':=by
 obtain⟨V,hV⟩:∃V,V=(w.alloc (.cells #[.string s] 9)).alloc (.cells #[G #[],G #[],I 0,I 0,I 0,I 0,I 0,I 0,I 0,I 0,G #[],G #[],G #[],G #[],I 0] 30):=⟨_,rfl⟩;have HBX:Hid (V.cell? ⟨w.heap.size,0,none⟩=some (.string s)∧w.heap.size<V.heap.size):=by rw[hV];exact⟨by simp[go_sem],by simp;omega⟩
 have HR:Hid (zAc V (w.heap.size+1) 30 #[G #[],G #[],I 0,I 0,I 0,I 0,I 0,I 0,I 0,I 0,G #[],G #[],G #[],G #[],I 0]):=by rw[hV];have h:=zAc.new (w.alloc (.cells #[.string s] 9)) #[G #[],G #[],I 0,I 0,I 0,I 0,I 0,I 0,I 0,I 0,G #[],G #[],G #[],G #[],I 0] 30;rw[Dm.size_alloc]at h;exact h
 have HB:Hid (Bw w V):=by rw[hV];exact bA.alloc (by simp) _
 have HTA:Hid (∀W,Below w.heap.size w W→Tab W):=fun W h=>htab.later h
 have HV:=zAb hV;clear hV htab;go_enter Tryz.func70,Tryz.ntmps70
 go_upto_region 1 with fail
 rw[←un HV];clear HV
 go_upto_region 3 with (go_at_call 157;go_must(refine(zEm _).mono ?_;rintro e W0 ⟨rfl,rfl⟩))
 obtain⟨W1,hW1⟩:∃W1,W1=V.alloc (.cells zCe 171):=⟨_,rfl⟩;rw[←hW1];have HW:Hid (Bw V W1):=by rw[hW1];exact bA
 have HRW:Hid (∀k,k<8→R4 W1 V.heap.size k):=by rw[hW1];exact rows8_at V
 have HG:Hid (V.heap.size<W1.heap.size):=by rw[hW1];show _<_;simp
 clear hW1;have HBX1:Hid (W1.cell? ⟨w.heap.size,0,none⟩=some (.string s)∧w.heap.size<W1.heap.size):=⟨((un HW).cell (p:=⟨w.heap.size,0,none⟩) (un HBX).2).trans (un HBX).1,Nat.lt_trans (un HBX).2 (un HG)⟩;have HIX:=zAb (zFz s V.heap.size 8 w.heap.size W1 (un HRW) (un HG) (un HBX1).1 (un HBX1).2);have HR1:=zAb ((un HR).later (un HW));have HB1:=zAb ((un HB).trans ((un HW).mono (un HB).size));obtain⟨gR,hgR⟩:∃gR,gR=V.heap.size:=⟨_,rfl⟩;rw[←hgR]at HRW HG HIX ⊢;clear hgR HW HBX HBX1 HR HB
 go_upto_region 4 with (go_at_call 158;go_must(refine(un HIX).mono ?_;rintro e W2 ⟨j,rfl,hj,hb⟩;have HJ:=zAb hj;have HB2:=zAb (bt HB1 hb);have HR2:=zAb ((un HR1).later hb);have HRW2:=zAb (fun k hk=>(un HRW k hk).later hb (un HG));have HG2:=zAb (Nat.lt_of_lt_of_le (un HG) hb.size);clear hj hb))
 clear HIX HRW HG HR1 HB1;rcases un HJ with ⟨k,hk,rfl,hk1,hk2⟩|⟨rfl,hn⟩
 ·have hk0:(0:Int)≤(k:Int):=by omega
  have hkI:(k:Int)<8:=by omega
  have hkn:¬(k:Int)<0:=by omega
  have hrow:=un HRW2 k hk;have c0:=hrow.c0;have c1:=hrow.c1;have c2:=hrow.c2;have c3:=hrow.c3;have HTO:=zAb (told_sc k hk);have HOUT:Hid (FindV (scB s) (.tuple #[.agg (sct k).u,.bool true])):=Or.inl ⟨k,hk,Or.inl ⟨k,hk,rfl,hk1,hk2⟩,rfl⟩;have HSZ:=zAb (size_sc k);have HON:=zAb (ones_sc k);clear hrow hk1 hk2 HRW2 HJ;generalize (sct k).nm=nm at *
  generalize (sct k).sy=sy at *
  generalize (sct k).tk=tk at *
  generalize (sct k).f=f at *
  generalize (sct k).u=u at *
  go_wp2_with (first
   | (go_at_call 159;go_must(refine(un HTO _ (un HTA _ (un HB2))).mono ?_;rintro e W3 ⟨rfl,hb⟩;have HB3:=zAb (bt HB2 hb);have HR3:=zAb ((un HR2).later hb);clear hb c0 c1 c2 c3))
   | (refine zAn 30 15 zEd rfl (.tmp 2) (.tmp 19) rfl (w.heap.size+1) #[G #[],G #[],I 0,I 0,I 0,I 0,I 0,I 0,I 0,I 0,G #[],G #[],G #[],G #[],I 0] u rfl (un HSZ) rfl rfl (un HR3) (un HON) ?_))
  exact bodyPost_ret (v:=.tuple #[.agg u,.bool true]) (zJn Tryz.results70 _ _ (w.heap.size+1) _ (un HSZ) rfl ((un HR3).setRow _)) rfl ⟨_,rfl,un HOUT,below_setRow (un HB3) (by omega) _⟩
 ·have hn1:((-1:Int)<0):=by decide
  go_wp2_with (refine zAn 30 15 zEd rfl (.tmp 2) (.tmp 14) rfl (w.heap.size+1) #[G #[],G #[],I 0,I 0,I 0,I 0,I 0,I 0,I 0,I 0,G #[],G #[],G #[],G #[],I 0] #[G #[],G #[],I 0,I 0,I 0,I 0,I 0,I 0,I 0,I 0,G #[],G #[],G #[],G #[],I 0] rfl rfl rfl rfl (un HR2) (by kernel_rfl) ?_)
  exact bodyPost_ret (v:=.tuple #[.agg #[G #[],G #[],I 0,I 0,I 0,I 0,I 0,I 0,I 0,I 0,G #[],G #[],G #[],G #[],I 0],.bool false]) (zJn Tryz.results70 _ _ (w.heap.size+1) _ rfl rfl ((un HR2).setRow _)) rfl ⟨_,rfl,Or.inr ⟨Or.inr ⟨rfl,hn⟩,rfl⟩,below_setRow (un HB2) (by omega) _⟩
abbrev z10:Array Value:=(J 0 0 0 0 0 0 0 0 0 0)
theorem zAu:(Tryz.prog.info? 180).map (·.size)=some 10:=by kernel_rfl
theorem res55 {fn:Func} {p:Tmp} (h:fn.results=#[.cell p 180]) (tmps:Array Value) (w:World) (g:Nat) (vs:Array Value) (hl:vs.size=10) (hp:tmps.getD p undef=.pointer (some ⟨g,0,none⟩)) (ho:zAc w g 180 vs) :
  (results fn tmps).run Tryz.prog w=.ok (.agg vs) w:=by
 rw[zBb h,hp];simp only[asAddr,Sem.run_pure,Result.andThen_ok];rw[run_loadVar_row w g 180 180 vs (0,0) _ ho Tryz.underlying180 rfl (by rw[zAu,hl])]
theorem ix0 (x0 x1 x2 x3 x4 x5 x6 x7:Int) (w:World):(Instr.index 25 (.agg #[I x0,I x1,I x2,I x3,I x4,I x5,I x6,I x7]) (I 0)).run Tryz.prog w=.ok (I x0) w:=by kernel_rfl
theorem ix1 (x0 x1 x2 x3 x4 x5 x6 x7:Int) (w:World):(Instr.index 25 (.agg #[I x0,I x1,I x2,I x3,I x4,I x5,I x6,I x7]) (I 1)).run Tryz.prog w=.ok (I x1) w:=by kernel_rfl
theorem ix2 (x0 x1 x2 x3 x4 x5 x6 x7:Int) (w:World):(Instr.index 25 (.agg #[I x0,I x1,I x2,I x3,I x4,I x5,I x6,I x7]) (I 2)).run Tryz.prog w=.ok (I x2) w:=by kernel_rfl
theorem ix3 (x0 x1 x2 x3 x4 x5 x6 x7:Int) (w:World):(Instr.index 25 (.agg #[I x0,I x1,I x2,I x3,I x4,I x5,I x6,I x7]) (I 3)).run Tryz.prog w=.ok (I x3) w:=by kernel_rfl
theorem ix4 (x0 x1 x2 x3 x4 x5 x6 x7:Int) (w:World):(Instr.index 25 (.agg #[I x0,I x1,I x2,I x3,I x4,I x5,I x6,I x7]) (I 4)).run Tryz.prog w=.ok (I x4) w:=by kernel_rfl
theorem ix5 (x0 x1 x2 x3 x4 x5 x6 x7:Int) (w:World):(Instr.index 25 (.agg #[I x0,I x1,I x2,I x3,I x4,I x5,I x6,I x7]) (I 5)).run Tryz.prog w=.ok (I x5) w:=by kernel_rfl
theorem ix6 (x0 x1 x2 x3 x4 x5 x6 x7:Int) (w:World):(Instr.index 25 (.agg #[I x0,I x1,I x2,I x3,I x4,I x5,I x6,I x7]) (I 6)).run Tryz.prog w=.ok (I x6) w:=by kernel_rfl
theorem ix7 (x0 x1 x2 x3 x4 x5 x6 x7:Int) (w:World):(Instr.index 25 (.agg #[I x0,I x1,I x2,I x3,I x4,I x5,I x6,I x7]) (I 7)).run Tryz.prog w=.ok (I x7) w:=by kernel_rfl
theorem zBp (n:Int) (w:World):Calls Tryz.prog 320 #[I n] w fun r w'=>r=.returned (.agg (J 0 0 0 0 0 0 0 0 n 1))∧Bw w w':=by
 go_enter Tryz.func320,Tryz.ntmps320;have HR:Hid (zAc (w.alloc (.cells (J 0 0 0 0 0 0 0 0 0 0) 180)) w.heap.size 180 (J 0 0 0 0 0 0 0 0 0 0)):=zAc.new _ _ _
 go_wp2_with (refine zAn 180 10 zAu rfl (.tmp 2) (.tmp 4) rfl w.heap.size (J 0 0 0 0 0 0 0 0 0 0) (J 0 0 0 0 0 0 0 0 n 1) rfl rfl rfl rfl (un HR) (by kernel_rfl) ?_)
 refine bodyPost_ret (v:=.agg (J 0 0 0 0 0 0 0 0 n 1)) (res55 Tryz.results320 _ _ w.heap.size _ rfl rfl ((un HR).setRow _)) rfl ⟨rfl,below_setRow bA (Nat.le_refl _) _⟩
theorem siTimes (a0 a1 a2 a3 a4 a5 a6 a7 an ad b0 b1 b2 b3 b4 b5 b6 b7 bn bd:Int) (w:World):Calls Tryz.prog 315 #[.agg (J a0 a1 a2 a3 a4 a5 a6 a7 an ad),.agg (J b0 b1 b2 b3 b4 b5 b6 b7 bn bd)] w fun r w'=>r=.returned (.agg (J (wrap64 (a0+b0)) (wrap64 (a1+b1)) (wrap64 (a2+b2)) (wrap64 (a3+b3)) (wrap64 (a4+b4)) (wrap64 (a5+b5)) (wrap64 (a6+b6)) (wrap64 (a7+b7)) (wrap64 (an*bn)) (wrap64 (ad*bd))))∧Bw w w':=by
 have i0:=ix0 b0 b1 b2 b3 b4 b5 b6 b7;have i1:=ix1 b0 b1 b2 b3 b4 b5 b6 b7;have i2:=ix2 b0 b1 b2 b3 b4 b5 b6 b7;have i3:=ix3 b0 b1 b2 b3 b4 b5 b6 b7;have i4:=ix4 b0 b1 b2 b3 b4 b5 b6 b7;have i5:=ix5 b0 b1 b2 b3 b4 b5 b6 b7;have i6:=ix6 b0 b1 b2 b3 b4 b5 b6 b7;have i7:=ix7 b0 b1 b2 b3 b4 b5 b6 b7;go_enter Tryz.func315,Tryz.ntmps315
 go_wp2_with fail
 refine wp_loop_rounds 9 ?_
 repeat any_goals (rw[rounds_succ];go_wp2_with fail)
 clear i0 i1 i2 i3 i4 i5 i6 i7;obtain⟨V,hV⟩:∃V,V=(((w.alloc (.cells (J (wrap64 (a0+b0)) (wrap64 (a1+b1)) (wrap64 (a2+b2)) (wrap64 (a3+b3)) (wrap64 (a4+b4)) (wrap64 (a5+b5)) (wrap64 (a6+b6)) (wrap64 (a7+b7)) an ad) 180)).alloc (.cells (J b0 b1 b2 b3 b4 b5 b6 b7 bn bd) 180)).alloc (.cells (J 0 0 0 0 0 0 0 0 0 0) 180)):=⟨_,rfl⟩;have HA:Hid (zAc V w.heap.size 180 (J (wrap64 (a0+b0)) (wrap64 (a1+b1)) (wrap64 (a2+b2)) (wrap64 (a3+b3)) (wrap64 (a4+b4)) (wrap64 (a5+b5)) (wrap64 (a6+b6)) (wrap64 (a7+b7)) an ad)):=by rw[hV];exact((zAc.new w (J (wrap64 (a0+b0)) (wrap64 (a1+b1)) (wrap64 (a2+b2)) (wrap64 (a3+b3)) (wrap64 (a4+b4)) (wrap64 (a5+b5)) (wrap64 (a6+b6)) (wrap64 (a7+b7)) an ad) 180).alloc _).alloc _
 have HB:Hid (zAc V (w.heap.size+1) 180 (J b0 b1 b2 b3 b4 b5 b6 b7 bn bd)):=by rw[hV];have h:=(zAc.new (w.alloc (.cells (J (wrap64 (a0+b0)) (wrap64 (a1+b1)) (wrap64 (a2+b2)) (wrap64 (a3+b3)) (wrap64 (a4+b4)) (wrap64 (a5+b5)) (wrap64 (a6+b6)) (wrap64 (a7+b7)) an ad) 180)) (J b0 b1 b2 b3 b4 b5 b6 b7 bn bd) 180).alloc (.cells (J 0 0 0 0 0 0 0 0 0 0) 180);rw[Dm.size_alloc]at h;exact h
 have HR:Hid (zAc V (w.heap.size+2) 180 (J 0 0 0 0 0 0 0 0 0 0)):=by rw[hV];have h:=zAc.new ((w.alloc (.cells (J (wrap64 (a0+b0)) (wrap64 (a1+b1)) (wrap64 (a2+b2)) (wrap64 (a3+b3)) (wrap64 (a4+b4)) (wrap64 (a5+b5)) (wrap64 (a6+b6)) (wrap64 (a7+b7)) an ad) 180)).alloc (.cells (J b0 b1 b2 b3 b4 b5 b6 b7 bn bd) 180)) (J 0 0 0 0 0 0 0 0 0 0) 180;rw[Dm.size_alloc,Dm.size_alloc]at h;exact h
 have HW:Hid (Bw w V):=by rw[hV];exact(bA.alloc (by simp) _).alloc (by simp;omega) _
 rw[←hV];clear hV;obtain⟨g2,hg2⟩:∃g2,g2=w.heap.size:=⟨_,rfl⟩;obtain⟨g3,hg3⟩:∃g3,g3=w.heap.size+1:=⟨_,rfl⟩;obtain⟨g4,hg4⟩:∃g4,g4=w.heap.size+2:=⟨_,rfl⟩;have HG:Hid (w.heap.size≤g2∧w.heap.size≤g4∧¬g2=g4∧¬g3=g2∧¬g4=g2):=(by show _∧_∧_∧_∧_;omega);rw[←hg4]at HR;rw[show w.heap.size+1+1=g4 from hg4.symm,←hg3,←hg2];rw[←hg3]at HB;rw[←hg2]at HA;clear hg2 hg3 hg4;have p8:V.cell? ⟨g2,8,none⟩=some (I an):=(un HA).ub.c 8 _ rfl;have p9:V.cell? ⟨g2,9,none⟩=some (I ad):=(un HA).ub.c 9 _ rfl;have q8:V.cell? ⟨g3,8,none⟩=some (I bn):=(un HB).ub.c 8 _ rfl;have q9:V.cell? ⟨g3,9,none⟩=some (I bd):=(un HB).ub.c 9 _ rfl;have f8:V.frozen? ⟨g2,8,none⟩=false:=(un HA).ub.f 8 (I an) rfl;have f9:V.frozen? ⟨g2,9,none⟩=false:=(un HA).ub.f 9 (I ad) rfl;have HS7:Hid ((V.drew).cell? ⟨g3,9,none⟩=some (I bd)):=q9;have h7a:∀v,(V.setCell ⟨g2,8,none⟩ v).cell? ⟨g3,9,none⟩=some (I bd):=fun v=>(World.cell?_setCell_other V _ _ _ (by intro e;simp only[Addr.mk.injEq]at e;exact(un HG).2.2.2.1 e.1.symm)).trans q9
 have h7b:∀v u,((V.setCell ⟨g2,8,none⟩ v).setCell ⟨g2,9,none⟩ u).cell? ⟨g3,9,none⟩=some (I bd):=fun v u=>(World.cell?_setCell_other _ _ _ _ (by intro e;simp only[Addr.mk.injEq]at e;exact(un HG).2.2.2.1 e.1.symm)).trans (h7a v)
 have HS0:Hid ((V.drew).cell? ⟨g2,8,none⟩=some (I an)∧(V.drew).cell? ⟨g2,9,none⟩=some (I ad)∧(V.drew).cell? ⟨g3,8,none⟩=some (I bn)∧(V.drew).cell? ⟨g3,9,none⟩=some (I bd)):=⟨p8,p9,q8,q9⟩;refine zAi 11 (fun W=>W.cell? ⟨g2,8,none⟩=some (I an)∧W.cell? ⟨g2,9,none⟩=some (I ad)∧W.cell? ⟨g3,8,none⟩=some (I bn)∧W.cell? ⟨g3,9,none⟩=some (I bd)) (fun W=>W.cell? ⟨g3,9,none⟩=some (I bd)) 14 rfl (by kernel_rfl) ?_;refine wT 0 (.pointer (some ⟨g2,8,none⟩)) rfl (Or.inl ⟨by rfl,?_⟩) ⟨un HS0,un HS7⟩ ?_
 ·intro W hW
  go_split_ands
  go_simp
 refine wT 1 (I an) rfl (Or.inl ⟨by rfl,?_⟩) ⟨un HS0,un HS7⟩ ?_
 ·intro W hW
  go_split_ands
  go_simp
 refine wT 2 (.pointer (some ⟨g3,8,none⟩)) rfl (Or.inl ⟨by rfl,?_⟩) ⟨un HS0,un HS7⟩ ?_
 ·intro W hW
  go_split_ands
  go_simp
 refine wT 3 (I bn) rfl (Or.inl ⟨by rfl,?_⟩) ⟨un HS0,un HS7⟩ ?_
 ·intro W hW
  go_split_ands
  go_simp
 refine wT 4 (I (wrap64 (an*bn))) rfl (Or.inl ⟨by rfl,?_⟩) ⟨un HS0,un HS7⟩ ?_
 ·intro W hW
  go_split_ands
  go_simp
  exact IntWalk.i64_left _
 refine wT 5 (.pointer (some ⟨g2,9,none⟩)) rfl (Or.inl ⟨by rfl,?_⟩) ⟨un HS0,un HS7⟩ ?_
 ·intro W hW
  go_split_ands
  go_simp
 refine wT 6 (I ad) rfl (Or.inl ⟨by rfl,?_⟩) ⟨un HS0,un HS7⟩ ?_
 ·intro W hW
  go_split_ands
  go_simp
 refine wT7 7 (.pointer (some ⟨g3,9,none⟩)) rfl (Or.inl ⟨by rfl,?_⟩) ⟨un HS0,un HS7⟩ ?_
 ·intro W hW
  go_split_ands
  go_simp
 refine wT7 8 (I bd) rfl (Or.inl ⟨by rfl,?_⟩) ⟨un HS0,un HS7⟩ ?_
 ·intro W hW
  go_split_ands
  go_simp
 refine wT7 9 (I (wrap64 (ad*bd))) rfl (Or.inl ⟨by rfl,?_⟩) ⟨un HS0,un HS7⟩ ?_
 ·intro W hW
  go_split_ands
  go_simp
  exact IntWalk.i64_left _
 refine wT 10 (.pointer (some ⟨g2,8,none⟩)) rfl (Or.inl ⟨by rfl,?_⟩) ⟨un HS0,un HS7⟩ ?_
 ·intro W hW
  go_split_ands
  go_simp
 clear HS0 HS7;refine wL 11 rfl rfl (fun K hK=>?_)
 go_simp
 refine hK _ _ (h7a _) ?_;clear hK K;refine wL 12 rfl rfl (fun K hK=>?_)
 go_simp
 refine hK _ _ (h7a _) ?_;clear hK K;refine wL 13 rfl rfl (fun K hK=>?_)
 go_simp
 refine hK _ _ (h7b _ _) ?_;clear hK K;refine wDn ?_;have HA2:Hid (zAc ((V.setCell ⟨g2,8,none⟩ (I (wrap64 (an*bn)))).setCell ⟨g2,9,none⟩ (I (wrap64 (ad*bd)))).drew g2 180 (J (wrap64 (a0+b0)) (wrap64 (a1+b1)) (wrap64 (a2+b2)) (wrap64 (a3+b3)) (wrap64 (a4+b4)) (wrap64 (a5+b5)) (wrap64 (a6+b6)) (wrap64 (a7+b7)) (wrap64 (an*bn)) (wrap64 (ad*bd)))):=((un HA).set 8 (I (wrap64 (an*bn)))).set 9 (I (wrap64 (ad*bd)));have HR2:Hid (zAc ((V.setCell ⟨g2,8,none⟩ (I (wrap64 (an*bn)))).setCell ⟨g2,9,none⟩ (I (wrap64 (ad*bd)))).drew g4 180 (J 0 0 0 0 0 0 0 0 0 0)):=((un HR).otherSet (un HG).2.2.2.2 8 (I (wrap64 (an*bn)))).otherSet (un HG).2.2.2.2 9 (I (wrap64 (ad*bd)));have HW2:Hid (Bw w ((V.setCell ⟨g2,8,none⟩ (I (wrap64 (an*bn)))).setCell ⟨g2,9,none⟩ (I (wrap64 (ad*bd)))).drew):=(((un HW).setCell (p:=⟨g2,8,none⟩) (un HG).1 _).setCell (p:=⟨g2,9,none⟩) (un HG).1 _).drew;clear p8 p9 q8 q9 f8 f9 h7a h7b HA HR HW HB;generalize ((V.setCell ⟨g2,8,none⟩ (I (wrap64 (an*bn)))).setCell ⟨g2,9,none⟩ (I (wrap64 (ad*bd)))).drew=U at *
 have u0:U.cell? ⟨g2,0,none⟩=some (I (wrap64 (a0+b0))):=(un HA2).ub.c 0 _ rfl;have u1:U.cell? ⟨g2,1,none⟩=some (I (wrap64 (a1+b1))):=(un HA2).ub.c 1 _ rfl;have u2:U.cell? ⟨g2,2,none⟩=some (I (wrap64 (a2+b2))):=(un HA2).ub.c 2 _ rfl;have u3:U.cell? ⟨g2,3,none⟩=some (I (wrap64 (a3+b3))):=(un HA2).ub.c 3 _ rfl;have u4:U.cell? ⟨g2,4,none⟩=some (I (wrap64 (a4+b4))):=(un HA2).ub.c 4 _ rfl;have u5:U.cell? ⟨g2,5,none⟩=some (I (wrap64 (a5+b5))):=(un HA2).ub.c 5 _ rfl;have u6:U.cell? ⟨g2,6,none⟩=some (I (wrap64 (a6+b6))):=(un HA2).ub.c 6 _ rfl;have u7:U.cell? ⟨g2,7,none⟩=some (I (wrap64 (a7+b7))):=(un HA2).ub.c 7 _ rfl;have u8:U.cell? ⟨g2,8,none⟩=some (I (wrap64 (an*bn))):=(un HA2).ub.c 8 _ rfl;have u9:U.cell? ⟨g2,9,none⟩=some (I (wrap64 (ad*bd))):=(un HA2).ub.c 9 _ rfl
 go_wp2_with (refine zAn 180 10 zAu rfl (.tmp 4) (.tmp 34) rfl g4 (J 0 0 0 0 0 0 0 0 0 0) (J (wrap64 (a0+b0)) (wrap64 (a1+b1)) (wrap64 (a2+b2)) (wrap64 (a3+b3)) (wrap64 (a4+b4)) (wrap64 (a5+b5)) (wrap64 (a6+b6)) (wrap64 (a7+b7)) (wrap64 (an*bn)) (wrap64 (ad*bd))) rfl rfl rfl rfl (un HR2) (by kernel_rfl) ?_)
 refine bodyPost_ret (v:=.agg (J (wrap64 (a0+b0)) (wrap64 (a1+b1)) (wrap64 (a2+b2)) (wrap64 (a3+b3)) (wrap64 (a4+b4)) (wrap64 (a5+b5)) (wrap64 (a6+b6)) (wrap64 (a7+b7)) (wrap64 (an*bn)) (wrap64 (ad*bd)))) (res55 Tryz.results315 _ _ g4 _ rfl rfl ((un HR2).setRow _)) rfl ⟨rfl,below_setRow (un HW2) (un HG).2.1 _⟩
theorem siBy (a0 a1 a2 a3 a4 a5 a6 a7 an ad b0 b1 b2 b3 b4 b5 b6 b7 bn bd:Int) (w:World):Calls Tryz.prog 316 #[.agg (J a0 a1 a2 a3 a4 a5 a6 a7 an ad),.agg (J b0 b1 b2 b3 b4 b5 b6 b7 bn bd)] w fun r w'=>r=.returned (.agg (J (wrap64 (a0 - b0)) (wrap64 (a1 - b1)) (wrap64 (a2 - b2)) (wrap64 (a3 - b3)) (wrap64 (a4 - b4)) (wrap64 (a5 - b5)) (wrap64 (a6 - b6)) (wrap64 (a7 - b7)) (wrap64 (an*bd)) (wrap64 (ad*bn))))∧Bw w w':=by
 have i0:=ix0 b0 b1 b2 b3 b4 b5 b6 b7;have i1:=ix1 b0 b1 b2 b3 b4 b5 b6 b7;have i2:=ix2 b0 b1 b2 b3 b4 b5 b6 b7;have i3:=ix3 b0 b1 b2 b3 b4 b5 b6 b7;have i4:=ix4 b0 b1 b2 b3 b4 b5 b6 b7;have i5:=ix5 b0 b1 b2 b3 b4 b5 b6 b7;have i6:=ix6 b0 b1 b2 b3 b4 b5 b6 b7;have i7:=ix7 b0 b1 b2 b3 b4 b5 b6 b7;go_enter Tryz.func316,Tryz.ntmps316
 go_wp2_with fail
 refine wp_loop_rounds 9 ?_
 repeat any_goals (rw[rounds_succ];go_wp2_with fail)
 clear i0 i1 i2 i3 i4 i5 i6 i7;obtain⟨V,hV⟩:∃V,V=(((w.alloc (.cells (J (wrap64 (a0 - b0)) (wrap64 (a1 - b1)) (wrap64 (a2 - b2)) (wrap64 (a3 - b3)) (wrap64 (a4 - b4)) (wrap64 (a5 - b5)) (wrap64 (a6 - b6)) (wrap64 (a7 - b7)) an ad) 180)).alloc (.cells (J b0 b1 b2 b3 b4 b5 b6 b7 bn bd) 180)).alloc (.cells (J 0 0 0 0 0 0 0 0 0 0) 180)):=⟨_,rfl⟩;have HA:Hid (zAc V w.heap.size 180 (J (wrap64 (a0 - b0)) (wrap64 (a1 - b1)) (wrap64 (a2 - b2)) (wrap64 (a3 - b3)) (wrap64 (a4 - b4)) (wrap64 (a5 - b5)) (wrap64 (a6 - b6)) (wrap64 (a7 - b7)) an ad)):=by rw[hV];exact((zAc.new w (J (wrap64 (a0 - b0)) (wrap64 (a1 - b1)) (wrap64 (a2 - b2)) (wrap64 (a3 - b3)) (wrap64 (a4 - b4)) (wrap64 (a5 - b5)) (wrap64 (a6 - b6)) (wrap64 (a7 - b7)) an ad) 180).alloc _).alloc _
 have HB:Hid (zAc V (w.heap.size+1) 180 (J b0 b1 b2 b3 b4 b5 b6 b7 bn bd)):=by rw[hV];have h:=(zAc.new (w.alloc (.cells (J (wrap64 (a0 - b0)) (wrap64 (a1 - b1)) (wrap64 (a2 - b2)) (wrap64 (a3 - b3)) (wrap64 (a4 - b4)) (wrap64 (a5 - b5)) (wrap64 (a6 - b6)) (wrap64 (a7 - b7)) an ad) 180)) (J b0 b1 b2 b3 b4 b5 b6 b7 bn bd) 180).alloc (.cells (J 0 0 0 0 0 0 0 0 0 0) 180);rw[Dm.size_alloc]at h;exact h
 have HR:Hid (zAc V (w.heap.size+2) 180 (J 0 0 0 0 0 0 0 0 0 0)):=by rw[hV];have h:=zAc.new ((w.alloc (.cells (J (wrap64 (a0 - b0)) (wrap64 (a1 - b1)) (wrap64 (a2 - b2)) (wrap64 (a3 - b3)) (wrap64 (a4 - b4)) (wrap64 (a5 - b5)) (wrap64 (a6 - b6)) (wrap64 (a7 - b7)) an ad) 180)).alloc (.cells (J b0 b1 b2 b3 b4 b5 b6 b7 bn bd) 180)) (J 0 0 0 0 0 0 0 0 0 0) 180;rw[Dm.size_alloc,Dm.size_alloc]at h;exact h
 have HW:Hid (Bw w V):=by rw[hV];exact(bA.alloc (by simp) _).alloc (by simp;omega) _
 rw[←hV];clear hV;obtain⟨g2,hg2⟩:∃g2,g2=w.heap.size:=⟨_,rfl⟩;obtain⟨g3,hg3⟩:∃g3,g3=w.heap.size+1:=⟨_,rfl⟩;obtain⟨g4,hg4⟩:∃g4,g4=w.heap.size+2:=⟨_,rfl⟩;have HG:Hid (w.heap.size≤g2∧w.heap.size≤g4∧¬g2=g4∧¬g3=g2∧¬g4=g2):=(by show _∧_∧_∧_∧_;omega);rw[←hg4]at HR;rw[show w.heap.size+1+1=g4 from hg4.symm,←hg3,←hg2];rw[←hg3]at HB;rw[←hg2]at HA;clear hg2 hg3 hg4;have p8:V.cell? ⟨g2,8,none⟩=some (I an):=(un HA).ub.c 8 _ rfl;have p9:V.cell? ⟨g2,9,none⟩=some (I ad):=(un HA).ub.c 9 _ rfl;have q8:V.cell? ⟨g3,8,none⟩=some (I bn):=(un HB).ub.c 8 _ rfl;have q9:V.cell? ⟨g3,9,none⟩=some (I bd):=(un HB).ub.c 9 _ rfl;have f8:V.frozen? ⟨g2,8,none⟩=false:=(un HA).ub.f 8 (I an) rfl;have f9:V.frozen? ⟨g2,9,none⟩=false:=(un HA).ub.f 9 (I ad) rfl;have HS7:Hid ((V.drew).cell? ⟨g3,8,none⟩=some (I bn)):=q8;have h7a:∀v,(V.setCell ⟨g2,8,none⟩ v).cell? ⟨g3,8,none⟩=some (I bn):=fun v=>(World.cell?_setCell_other V _ _ _ (by intro e;simp only[Addr.mk.injEq]at e;exact(un HG).2.2.2.1 e.1.symm)).trans q8
 have h7b:∀v u,((V.setCell ⟨g2,8,none⟩ v).setCell ⟨g2,9,none⟩ u).cell? ⟨g3,8,none⟩=some (I bn):=fun v u=>(World.cell?_setCell_other _ _ _ _ (by intro e;simp only[Addr.mk.injEq]at e;exact(un HG).2.2.2.1 e.1.symm)).trans (h7a v)
 have HS0:Hid ((V.drew).cell? ⟨g2,8,none⟩=some (I an)∧(V.drew).cell? ⟨g2,9,none⟩=some (I ad)∧(V.drew).cell? ⟨g3,8,none⟩=some (I bn)∧(V.drew).cell? ⟨g3,9,none⟩=some (I bd)):=⟨p8,p9,q8,q9⟩;refine zAi 11 (fun W=>W.cell? ⟨g2,8,none⟩=some (I an)∧W.cell? ⟨g2,9,none⟩=some (I ad)∧W.cell? ⟨g3,8,none⟩=some (I bn)∧W.cell? ⟨g3,9,none⟩=some (I bd)) (fun W=>W.cell? ⟨g3,8,none⟩=some (I bn)) 14 rfl (by kernel_rfl) ?_;refine wT 0 (.pointer (some ⟨g2,8,none⟩)) rfl (Or.inl ⟨by rfl,?_⟩) ⟨un HS0,un HS7⟩ ?_
 ·intro W hW
  go_split_ands
  go_simp
 refine wT 1 (I an) rfl (Or.inl ⟨by rfl,?_⟩) ⟨un HS0,un HS7⟩ ?_
 ·intro W hW
  go_split_ands
  go_simp
 refine wT 2 (.pointer (some ⟨g3,9,none⟩)) rfl (Or.inl ⟨by rfl,?_⟩) ⟨un HS0,un HS7⟩ ?_
 ·intro W hW
  go_split_ands
  go_simp
 refine wT 3 (I bd) rfl (Or.inl ⟨by rfl,?_⟩) ⟨un HS0,un HS7⟩ ?_
 ·intro W hW
  go_split_ands
  go_simp
 refine wT 4 (I (wrap64 (an*bd))) rfl (Or.inl ⟨by rfl,?_⟩) ⟨un HS0,un HS7⟩ ?_
 ·intro W hW
  go_split_ands
  go_simp
  exact IntWalk.i64_left _
 refine wT 5 (.pointer (some ⟨g2,9,none⟩)) rfl (Or.inl ⟨by rfl,?_⟩) ⟨un HS0,un HS7⟩ ?_
 ·intro W hW
  go_split_ands
  go_simp
 refine wT 6 (I ad) rfl (Or.inl ⟨by rfl,?_⟩) ⟨un HS0,un HS7⟩ ?_
 ·intro W hW
  go_split_ands
  go_simp
 refine wT7 7 (.pointer (some ⟨g3,8,none⟩)) rfl (Or.inl ⟨by rfl,?_⟩) ⟨un HS0,un HS7⟩ ?_
 ·intro W hW
  go_split_ands
  go_simp
 refine wT7 8 (I bn) rfl (Or.inl ⟨by rfl,?_⟩) ⟨un HS0,un HS7⟩ ?_
 ·intro W hW
  go_split_ands
  go_simp
 refine wT7 9 (I (wrap64 (ad*bn))) rfl (Or.inl ⟨by rfl,?_⟩) ⟨un HS0,un HS7⟩ ?_
 ·intro W hW
  go_split_ands
  go_simp
  exact IntWalk.i64_left _
 refine wT 10 (.pointer (some ⟨g2,8,none⟩)) rfl (Or.inl ⟨by rfl,?_⟩) ⟨un HS0,un HS7⟩ ?_
 ·intro W hW
  go_split_ands
  go_simp
 clear HS0 HS7;refine wL 11 rfl rfl (fun K hK=>?_)
 go_simp
 refine hK _ _ (h7a _) ?_;clear hK K;refine wL 12 rfl rfl (fun K hK=>?_)
 go_simp
 refine hK _ _ (h7a _) ?_;clear hK K;refine wL 13 rfl rfl (fun K hK=>?_)
 go_simp
 refine hK _ _ (h7b _ _) ?_;clear hK K;refine wDn ?_;have HA2:Hid (zAc ((V.setCell ⟨g2,8,none⟩ (I (wrap64 (an*bd)))).setCell ⟨g2,9,none⟩ (I (wrap64 (ad*bn)))).drew g2 180 (J (wrap64 (a0 - b0)) (wrap64 (a1 - b1)) (wrap64 (a2 - b2)) (wrap64 (a3 - b3)) (wrap64 (a4 - b4)) (wrap64 (a5 - b5)) (wrap64 (a6 - b6)) (wrap64 (a7 - b7)) (wrap64 (an*bd)) (wrap64 (ad*bn)))):=((un HA).set 8 (I (wrap64 (an*bd)))).set 9 (I (wrap64 (ad*bn)));have HR2:Hid (zAc ((V.setCell ⟨g2,8,none⟩ (I (wrap64 (an*bd)))).setCell ⟨g2,9,none⟩ (I (wrap64 (ad*bn)))).drew g4 180 (J 0 0 0 0 0 0 0 0 0 0)):=((un HR).otherSet (un HG).2.2.2.2 8 (I (wrap64 (an*bd)))).otherSet (un HG).2.2.2.2 9 (I (wrap64 (ad*bn)));have HW2:Hid (Bw w ((V.setCell ⟨g2,8,none⟩ (I (wrap64 (an*bd)))).setCell ⟨g2,9,none⟩ (I (wrap64 (ad*bn)))).drew):=(((un HW).setCell (p:=⟨g2,8,none⟩) (un HG).1 _).setCell (p:=⟨g2,9,none⟩) (un HG).1 _).drew;clear p8 p9 q8 q9 f8 f9 h7a h7b HA HR HW HB;generalize ((V.setCell ⟨g2,8,none⟩ (I (wrap64 (an*bd)))).setCell ⟨g2,9,none⟩ (I (wrap64 (ad*bn)))).drew=U at *
 have u0:U.cell? ⟨g2,0,none⟩=some (I (wrap64 (a0 - b0))):=(un HA2).ub.c 0 _ rfl;have u1:U.cell? ⟨g2,1,none⟩=some (I (wrap64 (a1 - b1))):=(un HA2).ub.c 1 _ rfl;have u2:U.cell? ⟨g2,2,none⟩=some (I (wrap64 (a2 - b2))):=(un HA2).ub.c 2 _ rfl;have u3:U.cell? ⟨g2,3,none⟩=some (I (wrap64 (a3 - b3))):=(un HA2).ub.c 3 _ rfl;have u4:U.cell? ⟨g2,4,none⟩=some (I (wrap64 (a4 - b4))):=(un HA2).ub.c 4 _ rfl;have u5:U.cell? ⟨g2,5,none⟩=some (I (wrap64 (a5 - b5))):=(un HA2).ub.c 5 _ rfl;have u6:U.cell? ⟨g2,6,none⟩=some (I (wrap64 (a6 - b6))):=(un HA2).ub.c 6 _ rfl;have u7:U.cell? ⟨g2,7,none⟩=some (I (wrap64 (a7 - b7))):=(un HA2).ub.c 7 _ rfl;have u8:U.cell? ⟨g2,8,none⟩=some (I (wrap64 (an*bd))):=(un HA2).ub.c 8 _ rfl;have u9:U.cell? ⟨g2,9,none⟩=some (I (wrap64 (ad*bn))):=(un HA2).ub.c 9 _ rfl
 go_wp2_with (refine zAn 180 10 zAu rfl (.tmp 4) (.tmp 34) rfl g4 (J 0 0 0 0 0 0 0 0 0 0) (J (wrap64 (a0 - b0)) (wrap64 (a1 - b1)) (wrap64 (a2 - b2)) (wrap64 (a3 - b3)) (wrap64 (a4 - b4)) (wrap64 (a5 - b5)) (wrap64 (a6 - b6)) (wrap64 (a7 - b7)) (wrap64 (an*bd)) (wrap64 (ad*bn))) rfl rfl rfl rfl (un HR2) (by kernel_rfl) ?_)
 refine bodyPost_ret (v:=.agg (J (wrap64 (a0 - b0)) (wrap64 (a1 - b1)) (wrap64 (a2 - b2)) (wrap64 (a3 - b3)) (wrap64 (a4 - b4)) (wrap64 (a5 - b5)) (wrap64 (a6 - b6)) (wrap64 (a7 - b7)) (wrap64 (an*bd)) (wrap64 (ad*bn)))) (res55 Tryz.results316 _ _ g4 _ rfl rfl ((un HR2).setRow _)) rfl ⟨rfl,below_setRow (un HW2) (un HG).2.1 _⟩
end Go.Proofs.YtliadckofhblnaaGreatDoor

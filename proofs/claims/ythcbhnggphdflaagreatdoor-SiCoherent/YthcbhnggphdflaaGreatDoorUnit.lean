/- The base units told: factor by value, (row).told. -/
import Derived.Test.YthcbhnggphdflaaGreatDoorLimb3
import Derived.Test.YthcbhnggphdflaaGreatDoorPfLast
import Derived.Test.YthcbhnggphdflaaGreatDoorLit
import Derived.Laws.EntriesVeiled
namespace Go.Proofs.YthcbhnggphdflaaGreatDoor
open Go.RowKit
theorem one_lt (E:Nat) (h:E=600):(1:Nat)<10 ^ E:=Nat.one_lt_pow (by omega) (by decide)
theorem pow20_600 (E:Nat) (h:E=600):10 ^ 20≤10 ^ E:=Nat.pow_le_pow_right (by decide) (by omega)
theorem small_of {x:Rat} (h1:x.num.natAbs<10 ^ 20) (h2:x.den<10 ^ 20):Small x:=⟨Nat.lt_of_lt_of_le h1 (pow20_600 600 rfl),Nat.lt_of_lt_of_le h2 (pow20_600 600 rfl)⟩
theorem isR_whole (N:Nat) (hN:N<9223372036854775808):IsR (sT false N) ⟨#[49]⟩ (Cub.valQ false N 1):=by
 have hs:N<10 ^ 600:=u64_600 N (by omega)
 have hl:Cub.Low false N 1:=⟨by decide,Nat.gcd_one_right _,fun h=>by cases h⟩
 obtain⟨e1,e2,e3⟩:=Cub.low_is hl
 have hsm:Small (Cub.valQ false N 1):=⟨by rw[←e2];exact hs,by rw[←e3];exact one_lt 600 rfl⟩
 refine⟨hsm,?_,?_⟩
 ·unfold numT;rw[if_pos hsm,←e1,←e2]
 ·unfold denT;rw[if_pos hsm,←e3];exact(lit_tb ⟨#[49]⟩ 1 (by decide) (by decide)).1
theorem isR_lit2 (s t:ByteArray) (N D:Nat) (x:Rat) (hN:x.num.natAbs=N) (hD:x.den=D) (hx:decide (x<0)=false) (bN:N<10 ^ 20) (bD:D<10 ^ 20)
  (h1:Cub.rightB s.data.toList=true) (v1:Cub.dval s.data.toList=N) (h2:Cub.rightB t.data.toList=true) (v2:Cub.dval t.data.toList=D):IsR s t x:=by
 have hsm:Small x:=small_of (by rw[hN];exact bN) (by rw[hD];exact bD)
 refine⟨hsm,?_,?_⟩
 ·unfold numT;rw[if_pos hsm,hx,hN];unfold sT;rw[if_neg (by decide)];exact(lit_tb s N h1 v1).1
 ·unfold denT;rw[if_pos hsm,hD];exact(lit_tb t D h2 v2).1
theorem factor_any (a0 a1 a2 a3 a4 a5 a6 a7:Int) (N D:Nat) (q:Rat) (s t:ByteArray) (w:World) (hN:N<9223372036854775808) (hD:D<9223372036854775808) (hD0:Cub.valQ false D 1≠0) (hq:Cub.valQ false N 1*(Cub.valQ false D 1)⁻¹=q) (hs:IsR s t q) (htab:Tab w) :
  Calls Tryz.prog 63 #[.agg #[I a0,I a1,I a2,I a3,I a4,I a5,I a6,I a7,I (N:Int),I (D:Int)]] w fun r w'=>r=.returned (.agg #[.string s,.string t])∧Below w.heap.size w w':=by
 refine factor_walk a0 a1 a2 a3 a4 a5 a6 a7 (N:Int) (D:Int) (sT false N) ⟨#[49]⟩ (sT false D) ⟨#[49]⟩ s t w (fun W hb=>ratOf_pos N W hN (htab.later hb)) (fun W hb=>ratOf_pos D W hD (htab.later hb)) (fun W hb=>?_)
 have h:=rquo_ok (sT false N) ⟨#[49]⟩ (sT false D) ⟨#[49]⟩ _ _ W (isR_whole N hN) (isR_whole D hD) hD0 (htab.later hb)
 unfold Ans at h
 rw[hq,show errT q=0 from by unfold errT;rw[if_pos hs.1],←hs.2.1,←hs.2.2]at h
 exact h
theorem isR_one:IsR ⟨#[49]⟩ ⟨#[49]⟩ 1:=isR_lit2 _ _ 1 1 _ (by decide +kernel) (by decide +kernel) (by decide +kernel) (by decide) (by decide) (by decide) (by decide) (by decide) (by decide)
theorem isR_milli:IsR ⟨#[49]⟩ ⟨#[49,48,48,48]⟩ (1 / 1000):=isR_lit2 _ _ 1 1000 _ (by decide +kernel) (by decide +kernel) (by decide +kernel) (by decide) (by decide) (by decide) (by decide) (by decide) (by decide)
theorem zero_of (w:World) (htab:Tab w):Calls Tryz.prog 52 #[I 0] w fun r w'=>r=.returned (.agg #[.string ⟨#[48]⟩,.string ⟨#[49]⟩])∧Below w.heap.size w w':=by
 have h:=ratOf_pos 0 w (by decide) htab
 rw[show sT false 0=⟨#[48]⟩from by unfold sT;rw[if_neg (by decide)];exact(lit_tb ⟨#[48]⟩ 0 (by decide) (by decide)).1.symm]at h
 exact h
theorem info27:(Tryz.prog.info? 30).map (·.size)=some 15:=by kernel_rfl
theorem res27 {fn:Func} {p:Tmp} (h:fn.results=#[.cell p 30]) (tmps:Array Value) (w:World) (g:Nat) (vs:Array Value) (hl:vs.size=15) (hp:tmps.getD p undef=.pointer (some ⟨g,0,none⟩)) (ho:OwnU w g 30 vs) :
  (results fn tmps).run Tryz.prog w=.ok (.agg vs) w:=by
 rw[results_cell1 h,hp]
 simp only[asAddr,Sem.run_pure,Result.andThen_ok]
 rw[run_loadVar_row w g 30 30 vs (0,0) _ ho Tryz.underlying30 rfl (by rw[info27,hl])]
theorem res27b {fn:Func} {p u:Tmp} (h:fn.results=#[.cell p 30,.tmp u]) (tmps:Array Value) (w:World) (g:Nat) (vs:Array Value) (hl:vs.size=15) (hp:tmps.getD p undef=.pointer (some ⟨g,0,none⟩)) (ho:OwnU w g 30 vs) :
  (results fn tmps).run Tryz.prog w=.ok (.tuple #[.agg vs,tmps.getD u undef]) w:=by
 rw[results_cell_tmp h,hp]
 simp only[asAddr,Sem.run_pure,Result.andThen_ok]
 rw[run_loadVar_row w g 30 30 vs (0,0) _ ho Tryz.underlying30 rfl (by rw[info27,hl])]
 rfl
set_option maxRecDepth 100000 in
set_option maxHeartbeats 4000000 in
theorem told_0 (w:World) (htab:Tab w):Calls Tryz.prog 33 #[.agg #[.string ⟨#[98,105,116]⟩,.string ⟨#[98]⟩,I 3,.func (.func 55) #[] #[]]] w fun r w'=>r=.returned (.agg #[.string ⟨#[98,105,116]⟩,.string ⟨#[98]⟩,I 0,I 0,I 0,I 0,I 0,I 0,I 0,I 1,.string ⟨#[49]⟩,.string ⟨#[49]⟩,.string ⟨#[48]⟩,.string ⟨#[49]⟩,I 3])∧Below w.heap.size w w':=by
 obtain⟨V,hV⟩:∃V,V=(w.alloc (.cells #[.string ⟨#[98,105,116]⟩,.string ⟨#[98]⟩,I 3,.func (.func 55) #[] #[]] 68)).alloc (.cells #[.string ⟨#[]⟩,.string ⟨#[]⟩,I 0,I 0,I 0,I 0,I 0,I 0,I 0,I 0,.string ⟨#[]⟩,.string ⟨#[]⟩,.string ⟨#[]⟩,.string ⟨#[]⟩,I 0] 30):=⟨_,rfl⟩
 have HA:Hid (OwnU V w.heap.size 68 #[.string ⟨#[98,105,116]⟩,.string ⟨#[98]⟩,I 3,.func (.func 55) #[] #[]]):=by rw[hV];exact(OwnU.new _ _ _).alloc _
 have HR:Hid (OwnU V (w.heap.size+1) 30 #[.string ⟨#[]⟩,.string ⟨#[]⟩,I 0,I 0,I 0,I 0,I 0,I 0,I 0,I 0,.string ⟨#[]⟩,.string ⟨#[]⟩,.string ⟨#[]⟩,.string ⟨#[]⟩,I 0]):=by rw[hV];have h:=OwnU.new (w.alloc (.cells #[.string ⟨#[98,105,116]⟩,.string ⟨#[98]⟩,I 3,.func (.func 55) #[] #[]] 68)) #[.string ⟨#[]⟩,.string ⟨#[]⟩,I 0,I 0,I 0,I 0,I 0,I 0,I 0,I 0,.string ⟨#[]⟩,.string ⟨#[]⟩,.string ⟨#[]⟩,.string ⟨#[]⟩,I 0] 30;rw[Dm.size_alloc]at h;exact h
 have HB:Hid (Below w.heap.size w V):=by rw[hV];exact((Below.refl _ _).alloc (Nat.le_refl _) _).alloc (by simp) _
 have HTA:Hid (∀W,Below w.heap.size w W→Tab W):=fun W h=>htab.later h
 have HV:=hide hV
 clear hV htab
 go_enter Tryz.func33,Tryz.ntmps33
 go_upto_region 1 with fail
 rw[←un HV]
 clear HV
 have c3:V.cell? ⟨w.heap.size,3,none⟩=some (.func (.func 55) #[] #[]):=(un HA).ub.c 3 _ rfl
 go_upto_region 2 with (go_at_call 55;go_must(refine(bit_made _).mono ?_;rintro e W ⟨rfl,hb⟩;have HA1:=hide ((un HA).later hb);have HR1:=hide ((un HR).later hb);have HB1:=hide ((un HB).trans (hb.mono (un HB).size));clear hb c3 HA HR HB))
 have HX:Hid (OwnU (W.alloc (.cells #[I 0,I 0,I 0,I 0,I 0,I 0,I 0,I 1,I 1,I 1] 112)) W.heap.size 112 #[I 0,I 0,I 0,I 0,I 0,I 0,I 0,I 1,I 1,I 1]):=OwnU.new _ _ _
 have hal:Below W.heap.size W (W.alloc (.cells #[I 0,I 0,I 0,I 0,I 0,I 0,I 0,I 1,I 1,I 1] 112)):=(Below.refl _ _).alloc (Nat.le_refl _) _
 have HA2:=hide ((un HA1).later (hal.trans (((Below.refl _ _).drew).mono hal.size)));have HR2:=hide ((un HR1).later (hal.trans (((Below.refl _ _).drew).mono hal.size)));have HB2:=hide ((un HB1).trans (Below.mono (hal.trans (((Below.refl _ _).drew).mono hal.size)) (un HB1).size));have HX2:=hide ((un HX).later (Below.refl _ _).drew)
 obtain⟨g3,hg3⟩:∃g3,g3=W.heap.size:=⟨_,rfl⟩
 rw[←hg3]at HX2 ⊢
 clear hal HX HA1 HR1 HB1 hg3
 have HSS:Hid (∀W',OwnU W' w.heap.size 68 #[.string ⟨#[98,105,116]⟩,.string ⟨#[98]⟩,I 3,.func (.func 55) #[] #[]]→OwnU W' g3 112 #[I 0,I 0,I 0,I 0,I 0,I 0,I 0,I 1,I 1,I 1]→W'.cell? ⟨w.heap.size,0,none⟩=some (.string ⟨#[98,105,116]⟩)∧W'.cell? ⟨w.heap.size,1,none⟩=some (.string ⟨#[98]⟩)∧W'.cell? ⟨w.heap.size,2,none⟩=some (I 3)∧W'.cell? ⟨g3,0,none⟩=some (I 0)∧W'.cell? ⟨g3,1,none⟩=some (I 0)∧W'.cell? ⟨g3,2,none⟩=some (I 0)∧W'.cell? ⟨g3,3,none⟩=some (I 0)∧W'.cell? ⟨g3,4,none⟩=some (I 0)∧W'.cell? ⟨g3,5,none⟩=some (I 0)∧W'.cell? ⟨g3,6,none⟩=some (I 0)∧W'.cell? ⟨g3,7,none⟩=some (I 1)∧W'.cell? ⟨g3,8,none⟩=some (I 1)∧W'.cell? ⟨g3,9,none⟩=some (I 1)):=fun W' h h'=>⟨h.ub.c 0 _ rfl,h.ub.c 1 _ rfl,h.ub.c 2 _ rfl,h'.ub.c 0 _ rfl,h'.ub.c 1 _ rfl,h'.ub.c 2 _ rfl,h'.ub.c 3 _ rfl,h'.ub.c 4 _ rfl,h'.ub.c 5 _ rfl,h'.ub.c 6 _ rfl,h'.ub.c 7 _ rfl,h'.ub.c 8 _ rfl,h'.ub.c 9 _ rfl⟩
 have HS0:=hide (un HSS _ (un HA2) (un HX2))
 refine region_reads 12 (fun W'=>W'.cell? ⟨w.heap.size,0,none⟩=some (.string ⟨#[98,105,116]⟩)∧W'.cell? ⟨w.heap.size,1,none⟩=some (.string ⟨#[98]⟩)∧W'.cell? ⟨w.heap.size,2,none⟩=some (I 3)∧W'.cell? ⟨g3,0,none⟩=some (I 0)∧W'.cell? ⟨g3,1,none⟩=some (I 0)∧W'.cell? ⟨g3,2,none⟩=some (I 0)∧W'.cell? ⟨g3,3,none⟩=some (I 0)∧W'.cell? ⟨g3,4,none⟩=some (I 0)∧W'.cell? ⟨g3,5,none⟩=some (I 0)∧W'.cell? ⟨g3,6,none⟩=some (I 0)∧W'.cell? ⟨g3,7,none⟩=some (I 1)∧W'.cell? ⟨g3,8,none⟩=some (I 1)∧W'.cell? ⟨g3,9,none⟩=some (I 1)) (fun _=>True) 13 rfl (by kernel_rfl) ?_
 refine wpR_take (i:=0) (oi:=_) (v:=.pointer (some ⟨w.heap.size,0,none⟩)) rfl (by kernel_rfl) (by kernel_rfl) (by kernel_rfl) (by kernel_rfl) (fun _ _ _ h=>h) (Or.inl ⟨by rfl,?_⟩) ⟨un HS0,trivial⟩ ?_
 ·intro W' hW
  go_split_ands
  go_simp
 refine wpR_take (i:=1) (oi:=_) (v:=.string ⟨#[98,105,116]⟩) rfl (by kernel_rfl) (by kernel_rfl) (by kernel_rfl) (by kernel_rfl) (fun _ _ _ h=>h) (Or.inl ⟨by rfl,?_⟩) ⟨un HS0,trivial⟩ ?_
 ·intro W' hW
  go_split_ands
  go_simp
 refine wpR_take (i:=2) (oi:=_) (v:=.pointer (some ⟨w.heap.size,1,none⟩)) rfl (by kernel_rfl) (by kernel_rfl) (by kernel_rfl) (by kernel_rfl) (fun _ _ _ h=>h) (Or.inl ⟨by rfl,?_⟩) ⟨un HS0,trivial⟩ ?_
 ·intro W' hW
  go_split_ands
  go_simp
 refine wpR_take (i:=3) (oi:=_) (v:=.string ⟨#[98]⟩) rfl (by kernel_rfl) (by kernel_rfl) (by kernel_rfl) (by kernel_rfl) (fun _ _ _ h=>h) (Or.inl ⟨by rfl,?_⟩) ⟨un HS0,trivial⟩ ?_
 ·intro W' hW
  go_split_ands
  go_simp
 refine wpR_take (i:=4) (oi:=_) (v:=.pointer (some ⟨g3,0,none⟩)) rfl (by kernel_rfl) (by kernel_rfl) (by kernel_rfl) (by kernel_rfl) (fun _ _ _ h=>h) (Or.inl ⟨by rfl,?_⟩) ⟨un HS0,trivial⟩ ?_
 ·intro W' hW
  go_split_ands
  go_simp
 refine wpR_take (i:=5) (oi:=_) (v:=.agg #[I 0,I 0,I 0,I 0,I 0,I 0,I 0,I 1]) rfl (by kernel_rfl) (by kernel_rfl) (by kernel_rfl) (by kernel_rfl) (fun _ _ _ h=>h) (Or.inl ⟨by rfl,?_⟩) ⟨un HS0,trivial⟩ ?_
 ·intro W' hW
  go_split_ands
  go_simp
 refine wpR_take (i:=6) (oi:=_) (v:=.agg #[I 0,I 0,I 0,I 0,I 0,I 0,I 0,I 1,I 1,I 1]) rfl (by kernel_rfl) (by kernel_rfl) (by kernel_rfl) (by kernel_rfl) (fun _ _ _ h=>h) (Or.inl ⟨by rfl,?_⟩) ⟨un HS0,trivial⟩ ?_
 ·intro W' hW
  go_split_ands
  go_simp
 refine wpR_take (i:=9) (oi:=_) (v:=.pointer (some ⟨w.heap.size,2,none⟩)) rfl (by kernel_rfl) (by kernel_rfl) (by kernel_rfl) (by kernel_rfl) (fun _ _ _ h=>h) (Or.inl ⟨by rfl,?_⟩) ⟨un HS0,trivial⟩ ?_
 ·intro W' hW
  go_split_ands
  go_simp
 refine wpR_take (i:=10) (oi:=_) (v:=I 3) rfl (by kernel_rfl) (by kernel_rfl) (by kernel_rfl) (by kernel_rfl) (fun _ _ _ h=>h) (Or.inl ⟨by rfl,?_⟩) ⟨un HS0,trivial⟩ ?_
 ·intro W' hW
  go_split_ands
  go_simp
 clear HS0
 generalize (W.alloc (.cells #[I 0,I 0,I 0,I 0,I 0,I 0,I 0,I 1,I 1,I 1] 112)).drew=U0 at *
 refine wpR_op (i:=7) (o:=_) (by kernel_rfl) rfl rfl (fun K hK=>?_)
 go_simp
 refine(factor_any 0 0 0 0 0 0 0 1 1 1 (1) ⟨#[49]⟩ ⟨#[49]⟩ _ (by decide) (by decide) (by decide +kernel) (by decide +kernel) isR_one (un HTA _ (un HB2))).mono ?_
 rintro e U7 ⟨rfl,hb⟩
 have HA3:=hide ((un HA2).later hb);have HR3:=hide ((un HR2).later hb);have HX3:=hide ((un HX2).later hb);have HB3:=hide ((un HB2).trans (hb.mono (un HB2).size))
 clear hb
 refine hK _ _ ⟨un HSS _ (un HA3) (un HX3),trivial⟩ ?_
 clear hK K
 refine wpR_op (i:=8) (o:=_) (by kernel_rfl) rfl rfl (fun K hK=>?_)
 go_simp
 refine(zero_of _ (un HTA _ (un HB3))).mono ?_
 rintro e U8 ⟨rfl,hb⟩
 have HA4:=hide ((un HA3).later hb);have HR4:=hide ((un HR3).later hb);have HX4:=hide ((un HX3).later hb);have HB4:=hide ((un HB3).trans (hb.mono (un HB3).size))
 clear hb
 refine hK _ _ ⟨un HSS _ (un HA4) (un HX4),trivial⟩ ?_
 clear hK K
 refine wpR_op (i:=11) (o:=_) (by kernel_rfl) rfl rfl (fun K hK=>?_)
 go_simp
 refine hK _ _ ⟨un HSS _ (un HA4) (un HX4),trivial⟩ ?_
 clear hK K
 refine wpR_late (i:=12) (o:=_) (by kernel_rfl) rfl rfl (by kernel_rfl) (fun K hK=>?_)
 refine wp_store_row 30 (.tmp 2) (.tmp 18) rfl (w.heap.size+1) #[.string ⟨#[98,105,116]⟩,.string ⟨#[98]⟩,I 0,I 0,I 0,I 0,I 0,I 0,I 0,I 1,.string ⟨#[49]⟩,.string ⟨#[49]⟩,.string ⟨#[48]⟩,.string ⟨#[49]⟩,I 3] rfl rfl 30 _ (un HR4) (by rw[info27];rfl) rfl (by kernel_rfl) (hK _ _ trivial ?_)
 clear hK K
 refine wpR_done (by kernel_rfl) ?_
 go_wp2_with fail
 exact bodyPost_ret (v:=.agg #[.string ⟨#[98,105,116]⟩,.string ⟨#[98]⟩,I 0,I 0,I 0,I 0,I 0,I 0,I 0,I 1,.string ⟨#[49]⟩,.string ⟨#[49]⟩,.string ⟨#[48]⟩,.string ⟨#[49]⟩,I 3]) (res27 Tryz.results33 _ _ (w.heap.size+1) _ rfl rfl ((un HR4).setRow _)) rfl ⟨rfl,below_setRow (un HB4) (by omega) _⟩
set_option maxRecDepth 100000 in
set_option maxHeartbeats 4000000 in
theorem told_1 (w:World) (htab:Tab w):Calls Tryz.prog 33 #[.agg #[.string ⟨#[109,111,108,101]⟩,.string ⟨#[109,111,108]⟩,I 1,.func (.func 56) #[] #[]]] w fun r w'=>r=.returned (.agg #[.string ⟨#[109,111,108,101]⟩,.string ⟨#[109,111,108]⟩,I 0,I 0,I 0,I 0,I 0,I 1,I 0,I 0,.string ⟨#[49]⟩,.string ⟨#[49]⟩,.string ⟨#[48]⟩,.string ⟨#[49]⟩,I 1])∧Below w.heap.size w w':=by
 obtain⟨V,hV⟩:∃V,V=(w.alloc (.cells #[.string ⟨#[109,111,108,101]⟩,.string ⟨#[109,111,108]⟩,I 1,.func (.func 56) #[] #[]] 68)).alloc (.cells #[.string ⟨#[]⟩,.string ⟨#[]⟩,I 0,I 0,I 0,I 0,I 0,I 0,I 0,I 0,.string ⟨#[]⟩,.string ⟨#[]⟩,.string ⟨#[]⟩,.string ⟨#[]⟩,I 0] 30):=⟨_,rfl⟩
 have HA:Hid (OwnU V w.heap.size 68 #[.string ⟨#[109,111,108,101]⟩,.string ⟨#[109,111,108]⟩,I 1,.func (.func 56) #[] #[]]):=by rw[hV];exact(OwnU.new _ _ _).alloc _
 have HR:Hid (OwnU V (w.heap.size+1) 30 #[.string ⟨#[]⟩,.string ⟨#[]⟩,I 0,I 0,I 0,I 0,I 0,I 0,I 0,I 0,.string ⟨#[]⟩,.string ⟨#[]⟩,.string ⟨#[]⟩,.string ⟨#[]⟩,I 0]):=by rw[hV];have h:=OwnU.new (w.alloc (.cells #[.string ⟨#[109,111,108,101]⟩,.string ⟨#[109,111,108]⟩,I 1,.func (.func 56) #[] #[]] 68)) #[.string ⟨#[]⟩,.string ⟨#[]⟩,I 0,I 0,I 0,I 0,I 0,I 0,I 0,I 0,.string ⟨#[]⟩,.string ⟨#[]⟩,.string ⟨#[]⟩,.string ⟨#[]⟩,I 0] 30;rw[Dm.size_alloc]at h;exact h
 have HB:Hid (Below w.heap.size w V):=by rw[hV];exact((Below.refl _ _).alloc (Nat.le_refl _) _).alloc (by simp) _
 have HTA:Hid (∀W,Below w.heap.size w W→Tab W):=fun W h=>htab.later h
 have HV:=hide hV
 clear hV htab
 go_enter Tryz.func33,Tryz.ntmps33
 go_upto_region 1 with fail
 rw[←un HV]
 clear HV
 have c3:V.cell? ⟨w.heap.size,3,none⟩=some (.func (.func 56) #[] #[]):=(un HA).ub.c 3 _ rfl
 go_upto_region 2 with (go_at_call 56;go_must(refine(mole_made _).mono ?_;rintro e W ⟨rfl,hb⟩;have HA1:=hide ((un HA).later hb);have HR1:=hide ((un HR).later hb);have HB1:=hide ((un HB).trans (hb.mono (un HB).size));clear hb c3 HA HR HB))
 have HX:Hid (OwnU (W.alloc (.cells #[I 0,I 0,I 0,I 0,I 0,I 1,I 0,I 0,I 1,I 1] 112)) W.heap.size 112 #[I 0,I 0,I 0,I 0,I 0,I 1,I 0,I 0,I 1,I 1]):=OwnU.new _ _ _
 have hal:Below W.heap.size W (W.alloc (.cells #[I 0,I 0,I 0,I 0,I 0,I 1,I 0,I 0,I 1,I 1] 112)):=(Below.refl _ _).alloc (Nat.le_refl _) _
 have HA2:=hide ((un HA1).later (hal.trans (((Below.refl _ _).drew).mono hal.size)));have HR2:=hide ((un HR1).later (hal.trans (((Below.refl _ _).drew).mono hal.size)));have HB2:=hide ((un HB1).trans (Below.mono (hal.trans (((Below.refl _ _).drew).mono hal.size)) (un HB1).size));have HX2:=hide ((un HX).later (Below.refl _ _).drew)
 obtain⟨g3,hg3⟩:∃g3,g3=W.heap.size:=⟨_,rfl⟩
 rw[←hg3]at HX2 ⊢
 clear hal HX HA1 HR1 HB1 hg3
 have HSS:Hid (∀W',OwnU W' w.heap.size 68 #[.string ⟨#[109,111,108,101]⟩,.string ⟨#[109,111,108]⟩,I 1,.func (.func 56) #[] #[]]→OwnU W' g3 112 #[I 0,I 0,I 0,I 0,I 0,I 1,I 0,I 0,I 1,I 1]→W'.cell? ⟨w.heap.size,0,none⟩=some (.string ⟨#[109,111,108,101]⟩)∧W'.cell? ⟨w.heap.size,1,none⟩=some (.string ⟨#[109,111,108]⟩)∧W'.cell? ⟨w.heap.size,2,none⟩=some (I 1)∧W'.cell? ⟨g3,0,none⟩=some (I 0)∧W'.cell? ⟨g3,1,none⟩=some (I 0)∧W'.cell? ⟨g3,2,none⟩=some (I 0)∧W'.cell? ⟨g3,3,none⟩=some (I 0)∧W'.cell? ⟨g3,4,none⟩=some (I 0)∧W'.cell? ⟨g3,5,none⟩=some (I 1)∧W'.cell? ⟨g3,6,none⟩=some (I 0)∧W'.cell? ⟨g3,7,none⟩=some (I 0)∧W'.cell? ⟨g3,8,none⟩=some (I 1)∧W'.cell? ⟨g3,9,none⟩=some (I 1)):=fun W' h h'=>⟨h.ub.c 0 _ rfl,h.ub.c 1 _ rfl,h.ub.c 2 _ rfl,h'.ub.c 0 _ rfl,h'.ub.c 1 _ rfl,h'.ub.c 2 _ rfl,h'.ub.c 3 _ rfl,h'.ub.c 4 _ rfl,h'.ub.c 5 _ rfl,h'.ub.c 6 _ rfl,h'.ub.c 7 _ rfl,h'.ub.c 8 _ rfl,h'.ub.c 9 _ rfl⟩
 have HS0:=hide (un HSS _ (un HA2) (un HX2))
 refine region_reads 12 (fun W'=>W'.cell? ⟨w.heap.size,0,none⟩=some (.string ⟨#[109,111,108,101]⟩)∧W'.cell? ⟨w.heap.size,1,none⟩=some (.string ⟨#[109,111,108]⟩)∧W'.cell? ⟨w.heap.size,2,none⟩=some (I 1)∧W'.cell? ⟨g3,0,none⟩=some (I 0)∧W'.cell? ⟨g3,1,none⟩=some (I 0)∧W'.cell? ⟨g3,2,none⟩=some (I 0)∧W'.cell? ⟨g3,3,none⟩=some (I 0)∧W'.cell? ⟨g3,4,none⟩=some (I 0)∧W'.cell? ⟨g3,5,none⟩=some (I 1)∧W'.cell? ⟨g3,6,none⟩=some (I 0)∧W'.cell? ⟨g3,7,none⟩=some (I 0)∧W'.cell? ⟨g3,8,none⟩=some (I 1)∧W'.cell? ⟨g3,9,none⟩=some (I 1)) (fun _=>True) 13 rfl (by kernel_rfl) ?_
 refine wpR_take (i:=0) (oi:=_) (v:=.pointer (some ⟨w.heap.size,0,none⟩)) rfl (by kernel_rfl) (by kernel_rfl) (by kernel_rfl) (by kernel_rfl) (fun _ _ _ h=>h) (Or.inl ⟨by rfl,?_⟩) ⟨un HS0,trivial⟩ ?_
 ·intro W' hW
  go_split_ands
  go_simp
 refine wpR_take (i:=1) (oi:=_) (v:=.string ⟨#[109,111,108,101]⟩) rfl (by kernel_rfl) (by kernel_rfl) (by kernel_rfl) (by kernel_rfl) (fun _ _ _ h=>h) (Or.inl ⟨by rfl,?_⟩) ⟨un HS0,trivial⟩ ?_
 ·intro W' hW
  go_split_ands
  go_simp
 refine wpR_take (i:=2) (oi:=_) (v:=.pointer (some ⟨w.heap.size,1,none⟩)) rfl (by kernel_rfl) (by kernel_rfl) (by kernel_rfl) (by kernel_rfl) (fun _ _ _ h=>h) (Or.inl ⟨by rfl,?_⟩) ⟨un HS0,trivial⟩ ?_
 ·intro W' hW
  go_split_ands
  go_simp
 refine wpR_take (i:=3) (oi:=_) (v:=.string ⟨#[109,111,108]⟩) rfl (by kernel_rfl) (by kernel_rfl) (by kernel_rfl) (by kernel_rfl) (fun _ _ _ h=>h) (Or.inl ⟨by rfl,?_⟩) ⟨un HS0,trivial⟩ ?_
 ·intro W' hW
  go_split_ands
  go_simp
 refine wpR_take (i:=4) (oi:=_) (v:=.pointer (some ⟨g3,0,none⟩)) rfl (by kernel_rfl) (by kernel_rfl) (by kernel_rfl) (by kernel_rfl) (fun _ _ _ h=>h) (Or.inl ⟨by rfl,?_⟩) ⟨un HS0,trivial⟩ ?_
 ·intro W' hW
  go_split_ands
  go_simp
 refine wpR_take (i:=5) (oi:=_) (v:=.agg #[I 0,I 0,I 0,I 0,I 0,I 1,I 0,I 0]) rfl (by kernel_rfl) (by kernel_rfl) (by kernel_rfl) (by kernel_rfl) (fun _ _ _ h=>h) (Or.inl ⟨by rfl,?_⟩) ⟨un HS0,trivial⟩ ?_
 ·intro W' hW
  go_split_ands
  go_simp
 refine wpR_take (i:=6) (oi:=_) (v:=.agg #[I 0,I 0,I 0,I 0,I 0,I 1,I 0,I 0,I 1,I 1]) rfl (by kernel_rfl) (by kernel_rfl) (by kernel_rfl) (by kernel_rfl) (fun _ _ _ h=>h) (Or.inl ⟨by rfl,?_⟩) ⟨un HS0,trivial⟩ ?_
 ·intro W' hW
  go_split_ands
  go_simp
 refine wpR_take (i:=9) (oi:=_) (v:=.pointer (some ⟨w.heap.size,2,none⟩)) rfl (by kernel_rfl) (by kernel_rfl) (by kernel_rfl) (by kernel_rfl) (fun _ _ _ h=>h) (Or.inl ⟨by rfl,?_⟩) ⟨un HS0,trivial⟩ ?_
 ·intro W' hW
  go_split_ands
  go_simp
 refine wpR_take (i:=10) (oi:=_) (v:=I 1) rfl (by kernel_rfl) (by kernel_rfl) (by kernel_rfl) (by kernel_rfl) (fun _ _ _ h=>h) (Or.inl ⟨by rfl,?_⟩) ⟨un HS0,trivial⟩ ?_
 ·intro W' hW
  go_split_ands
  go_simp
 clear HS0
 generalize (W.alloc (.cells #[I 0,I 0,I 0,I 0,I 0,I 1,I 0,I 0,I 1,I 1] 112)).drew=U0 at *
 refine wpR_op (i:=7) (o:=_) (by kernel_rfl) rfl rfl (fun K hK=>?_)
 go_simp
 refine(factor_any 0 0 0 0 0 1 0 0 1 1 (1) ⟨#[49]⟩ ⟨#[49]⟩ _ (by decide) (by decide) (by decide +kernel) (by decide +kernel) isR_one (un HTA _ (un HB2))).mono ?_
 rintro e U7 ⟨rfl,hb⟩
 have HA3:=hide ((un HA2).later hb);have HR3:=hide ((un HR2).later hb);have HX3:=hide ((un HX2).later hb);have HB3:=hide ((un HB2).trans (hb.mono (un HB2).size))
 clear hb
 refine hK _ _ ⟨un HSS _ (un HA3) (un HX3),trivial⟩ ?_
 clear hK K
 refine wpR_op (i:=8) (o:=_) (by kernel_rfl) rfl rfl (fun K hK=>?_)
 go_simp
 refine(zero_of _ (un HTA _ (un HB3))).mono ?_
 rintro e U8 ⟨rfl,hb⟩
 have HA4:=hide ((un HA3).later hb);have HR4:=hide ((un HR3).later hb);have HX4:=hide ((un HX3).later hb);have HB4:=hide ((un HB3).trans (hb.mono (un HB3).size))
 clear hb
 refine hK _ _ ⟨un HSS _ (un HA4) (un HX4),trivial⟩ ?_
 clear hK K
 refine wpR_op (i:=11) (o:=_) (by kernel_rfl) rfl rfl (fun K hK=>?_)
 go_simp
 refine hK _ _ ⟨un HSS _ (un HA4) (un HX4),trivial⟩ ?_
 clear hK K
 refine wpR_late (i:=12) (o:=_) (by kernel_rfl) rfl rfl (by kernel_rfl) (fun K hK=>?_)
 refine wp_store_row 30 (.tmp 2) (.tmp 18) rfl (w.heap.size+1) #[.string ⟨#[109,111,108,101]⟩,.string ⟨#[109,111,108]⟩,I 0,I 0,I 0,I 0,I 0,I 1,I 0,I 0,.string ⟨#[49]⟩,.string ⟨#[49]⟩,.string ⟨#[48]⟩,.string ⟨#[49]⟩,I 1] rfl rfl 30 _ (un HR4) (by rw[info27];rfl) rfl (by kernel_rfl) (hK _ _ trivial ?_)
 clear hK K
 refine wpR_done (by kernel_rfl) ?_
 go_wp2_with fail
 exact bodyPost_ret (v:=.agg #[.string ⟨#[109,111,108,101]⟩,.string ⟨#[109,111,108]⟩,I 0,I 0,I 0,I 0,I 0,I 1,I 0,I 0,.string ⟨#[49]⟩,.string ⟨#[49]⟩,.string ⟨#[48]⟩,.string ⟨#[49]⟩,I 1]) (res27 Tryz.results33 _ _ (w.heap.size+1) _ rfl rfl ((un HR4).setRow _)) rfl ⟨rfl,below_setRow (un HB4) (by omega) _⟩
set_option maxRecDepth 100000 in
set_option maxHeartbeats 4000000 in
theorem told_2 (w:World) (htab:Tab w):Calls Tryz.prog 33 #[.agg #[.string ⟨#[115,101,99,111,110,100]⟩,.string ⟨#[115]⟩,I 1,.func (.func 57) #[] #[]]] w fun r w'=>r=.returned (.agg #[.string ⟨#[115,101,99,111,110,100]⟩,.string ⟨#[115]⟩,I 0,I 0,I 1,I 0,I 0,I 0,I 0,I 0,.string ⟨#[49]⟩,.string ⟨#[49]⟩,.string ⟨#[48]⟩,.string ⟨#[49]⟩,I 1])∧Below w.heap.size w w':=by
 obtain⟨V,hV⟩:∃V,V=(w.alloc (.cells #[.string ⟨#[115,101,99,111,110,100]⟩,.string ⟨#[115]⟩,I 1,.func (.func 57) #[] #[]] 68)).alloc (.cells #[.string ⟨#[]⟩,.string ⟨#[]⟩,I 0,I 0,I 0,I 0,I 0,I 0,I 0,I 0,.string ⟨#[]⟩,.string ⟨#[]⟩,.string ⟨#[]⟩,.string ⟨#[]⟩,I 0] 30):=⟨_,rfl⟩
 have HA:Hid (OwnU V w.heap.size 68 #[.string ⟨#[115,101,99,111,110,100]⟩,.string ⟨#[115]⟩,I 1,.func (.func 57) #[] #[]]):=by rw[hV];exact(OwnU.new _ _ _).alloc _
 have HR:Hid (OwnU V (w.heap.size+1) 30 #[.string ⟨#[]⟩,.string ⟨#[]⟩,I 0,I 0,I 0,I 0,I 0,I 0,I 0,I 0,.string ⟨#[]⟩,.string ⟨#[]⟩,.string ⟨#[]⟩,.string ⟨#[]⟩,I 0]):=by rw[hV];have h:=OwnU.new (w.alloc (.cells #[.string ⟨#[115,101,99,111,110,100]⟩,.string ⟨#[115]⟩,I 1,.func (.func 57) #[] #[]] 68)) #[.string ⟨#[]⟩,.string ⟨#[]⟩,I 0,I 0,I 0,I 0,I 0,I 0,I 0,I 0,.string ⟨#[]⟩,.string ⟨#[]⟩,.string ⟨#[]⟩,.string ⟨#[]⟩,I 0] 30;rw[Dm.size_alloc]at h;exact h
 have HB:Hid (Below w.heap.size w V):=by rw[hV];exact((Below.refl _ _).alloc (Nat.le_refl _) _).alloc (by simp) _
 have HTA:Hid (∀W,Below w.heap.size w W→Tab W):=fun W h=>htab.later h
 have HV:=hide hV
 clear hV htab
 go_enter Tryz.func33,Tryz.ntmps33
 go_upto_region 1 with fail
 rw[←un HV]
 clear HV
 have c3:V.cell? ⟨w.heap.size,3,none⟩=some (.func (.func 57) #[] #[]):=(un HA).ub.c 3 _ rfl
 go_upto_region 2 with (go_at_call 57;go_must(refine(second_made _).mono ?_;rintro e W ⟨rfl,hb⟩;have HA1:=hide ((un HA).later hb);have HR1:=hide ((un HR).later hb);have HB1:=hide ((un HB).trans (hb.mono (un HB).size));clear hb c3 HA HR HB))
 have HX:Hid (OwnU (W.alloc (.cells #[I 0,I 0,I 1,I 0,I 0,I 0,I 0,I 0,I 1,I 1] 112)) W.heap.size 112 #[I 0,I 0,I 1,I 0,I 0,I 0,I 0,I 0,I 1,I 1]):=OwnU.new _ _ _
 have hal:Below W.heap.size W (W.alloc (.cells #[I 0,I 0,I 1,I 0,I 0,I 0,I 0,I 0,I 1,I 1] 112)):=(Below.refl _ _).alloc (Nat.le_refl _) _
 have HA2:=hide ((un HA1).later (hal.trans (((Below.refl _ _).drew).mono hal.size)));have HR2:=hide ((un HR1).later (hal.trans (((Below.refl _ _).drew).mono hal.size)));have HB2:=hide ((un HB1).trans (Below.mono (hal.trans (((Below.refl _ _).drew).mono hal.size)) (un HB1).size));have HX2:=hide ((un HX).later (Below.refl _ _).drew)
 obtain⟨g3,hg3⟩:∃g3,g3=W.heap.size:=⟨_,rfl⟩
 rw[←hg3]at HX2 ⊢
 clear hal HX HA1 HR1 HB1 hg3
 have HSS:Hid (∀W',OwnU W' w.heap.size 68 #[.string ⟨#[115,101,99,111,110,100]⟩,.string ⟨#[115]⟩,I 1,.func (.func 57) #[] #[]]→OwnU W' g3 112 #[I 0,I 0,I 1,I 0,I 0,I 0,I 0,I 0,I 1,I 1]→W'.cell? ⟨w.heap.size,0,none⟩=some (.string ⟨#[115,101,99,111,110,100]⟩)∧W'.cell? ⟨w.heap.size,1,none⟩=some (.string ⟨#[115]⟩)∧W'.cell? ⟨w.heap.size,2,none⟩=some (I 1)∧W'.cell? ⟨g3,0,none⟩=some (I 0)∧W'.cell? ⟨g3,1,none⟩=some (I 0)∧W'.cell? ⟨g3,2,none⟩=some (I 1)∧W'.cell? ⟨g3,3,none⟩=some (I 0)∧W'.cell? ⟨g3,4,none⟩=some (I 0)∧W'.cell? ⟨g3,5,none⟩=some (I 0)∧W'.cell? ⟨g3,6,none⟩=some (I 0)∧W'.cell? ⟨g3,7,none⟩=some (I 0)∧W'.cell? ⟨g3,8,none⟩=some (I 1)∧W'.cell? ⟨g3,9,none⟩=some (I 1)):=fun W' h h'=>⟨h.ub.c 0 _ rfl,h.ub.c 1 _ rfl,h.ub.c 2 _ rfl,h'.ub.c 0 _ rfl,h'.ub.c 1 _ rfl,h'.ub.c 2 _ rfl,h'.ub.c 3 _ rfl,h'.ub.c 4 _ rfl,h'.ub.c 5 _ rfl,h'.ub.c 6 _ rfl,h'.ub.c 7 _ rfl,h'.ub.c 8 _ rfl,h'.ub.c 9 _ rfl⟩
 have HS0:=hide (un HSS _ (un HA2) (un HX2))
 refine region_reads 12 (fun W'=>W'.cell? ⟨w.heap.size,0,none⟩=some (.string ⟨#[115,101,99,111,110,100]⟩)∧W'.cell? ⟨w.heap.size,1,none⟩=some (.string ⟨#[115]⟩)∧W'.cell? ⟨w.heap.size,2,none⟩=some (I 1)∧W'.cell? ⟨g3,0,none⟩=some (I 0)∧W'.cell? ⟨g3,1,none⟩=some (I 0)∧W'.cell? ⟨g3,2,none⟩=some (I 1)∧W'.cell? ⟨g3,3,none⟩=some (I 0)∧W'.cell? ⟨g3,4,none⟩=some (I 0)∧W'.cell? ⟨g3,5,none⟩=some (I 0)∧W'.cell? ⟨g3,6,none⟩=some (I 0)∧W'.cell? ⟨g3,7,none⟩=some (I 0)∧W'.cell? ⟨g3,8,none⟩=some (I 1)∧W'.cell? ⟨g3,9,none⟩=some (I 1)) (fun _=>True) 13 rfl (by kernel_rfl) ?_
 refine wpR_take (i:=0) (oi:=_) (v:=.pointer (some ⟨w.heap.size,0,none⟩)) rfl (by kernel_rfl) (by kernel_rfl) (by kernel_rfl) (by kernel_rfl) (fun _ _ _ h=>h) (Or.inl ⟨by rfl,?_⟩) ⟨un HS0,trivial⟩ ?_
 ·intro W' hW
  go_split_ands
  go_simp
 refine wpR_take (i:=1) (oi:=_) (v:=.string ⟨#[115,101,99,111,110,100]⟩) rfl (by kernel_rfl) (by kernel_rfl) (by kernel_rfl) (by kernel_rfl) (fun _ _ _ h=>h) (Or.inl ⟨by rfl,?_⟩) ⟨un HS0,trivial⟩ ?_
 ·intro W' hW
  go_split_ands
  go_simp
 refine wpR_take (i:=2) (oi:=_) (v:=.pointer (some ⟨w.heap.size,1,none⟩)) rfl (by kernel_rfl) (by kernel_rfl) (by kernel_rfl) (by kernel_rfl) (fun _ _ _ h=>h) (Or.inl ⟨by rfl,?_⟩) ⟨un HS0,trivial⟩ ?_
 ·intro W' hW
  go_split_ands
  go_simp
 refine wpR_take (i:=3) (oi:=_) (v:=.string ⟨#[115]⟩) rfl (by kernel_rfl) (by kernel_rfl) (by kernel_rfl) (by kernel_rfl) (fun _ _ _ h=>h) (Or.inl ⟨by rfl,?_⟩) ⟨un HS0,trivial⟩ ?_
 ·intro W' hW
  go_split_ands
  go_simp
 refine wpR_take (i:=4) (oi:=_) (v:=.pointer (some ⟨g3,0,none⟩)) rfl (by kernel_rfl) (by kernel_rfl) (by kernel_rfl) (by kernel_rfl) (fun _ _ _ h=>h) (Or.inl ⟨by rfl,?_⟩) ⟨un HS0,trivial⟩ ?_
 ·intro W' hW
  go_split_ands
  go_simp
 refine wpR_take (i:=5) (oi:=_) (v:=.agg #[I 0,I 0,I 1,I 0,I 0,I 0,I 0,I 0]) rfl (by kernel_rfl) (by kernel_rfl) (by kernel_rfl) (by kernel_rfl) (fun _ _ _ h=>h) (Or.inl ⟨by rfl,?_⟩) ⟨un HS0,trivial⟩ ?_
 ·intro W' hW
  go_split_ands
  go_simp
 refine wpR_take (i:=6) (oi:=_) (v:=.agg #[I 0,I 0,I 1,I 0,I 0,I 0,I 0,I 0,I 1,I 1]) rfl (by kernel_rfl) (by kernel_rfl) (by kernel_rfl) (by kernel_rfl) (fun _ _ _ h=>h) (Or.inl ⟨by rfl,?_⟩) ⟨un HS0,trivial⟩ ?_
 ·intro W' hW
  go_split_ands
  go_simp
 refine wpR_take (i:=9) (oi:=_) (v:=.pointer (some ⟨w.heap.size,2,none⟩)) rfl (by kernel_rfl) (by kernel_rfl) (by kernel_rfl) (by kernel_rfl) (fun _ _ _ h=>h) (Or.inl ⟨by rfl,?_⟩) ⟨un HS0,trivial⟩ ?_
 ·intro W' hW
  go_split_ands
  go_simp
 refine wpR_take (i:=10) (oi:=_) (v:=I 1) rfl (by kernel_rfl) (by kernel_rfl) (by kernel_rfl) (by kernel_rfl) (fun _ _ _ h=>h) (Or.inl ⟨by rfl,?_⟩) ⟨un HS0,trivial⟩ ?_
 ·intro W' hW
  go_split_ands
  go_simp
 clear HS0
 generalize (W.alloc (.cells #[I 0,I 0,I 1,I 0,I 0,I 0,I 0,I 0,I 1,I 1] 112)).drew=U0 at *
 refine wpR_op (i:=7) (o:=_) (by kernel_rfl) rfl rfl (fun K hK=>?_)
 go_simp
 refine(factor_any 0 0 1 0 0 0 0 0 1 1 (1) ⟨#[49]⟩ ⟨#[49]⟩ _ (by decide) (by decide) (by decide +kernel) (by decide +kernel) isR_one (un HTA _ (un HB2))).mono ?_
 rintro e U7 ⟨rfl,hb⟩
 have HA3:=hide ((un HA2).later hb);have HR3:=hide ((un HR2).later hb);have HX3:=hide ((un HX2).later hb);have HB3:=hide ((un HB2).trans (hb.mono (un HB2).size))
 clear hb
 refine hK _ _ ⟨un HSS _ (un HA3) (un HX3),trivial⟩ ?_
 clear hK K
 refine wpR_op (i:=8) (o:=_) (by kernel_rfl) rfl rfl (fun K hK=>?_)
 go_simp
 refine(zero_of _ (un HTA _ (un HB3))).mono ?_
 rintro e U8 ⟨rfl,hb⟩
 have HA4:=hide ((un HA3).later hb);have HR4:=hide ((un HR3).later hb);have HX4:=hide ((un HX3).later hb);have HB4:=hide ((un HB3).trans (hb.mono (un HB3).size))
 clear hb
 refine hK _ _ ⟨un HSS _ (un HA4) (un HX4),trivial⟩ ?_
 clear hK K
 refine wpR_op (i:=11) (o:=_) (by kernel_rfl) rfl rfl (fun K hK=>?_)
 go_simp
 refine hK _ _ ⟨un HSS _ (un HA4) (un HX4),trivial⟩ ?_
 clear hK K
 refine wpR_late (i:=12) (o:=_) (by kernel_rfl) rfl rfl (by kernel_rfl) (fun K hK=>?_)
 refine wp_store_row 30 (.tmp 2) (.tmp 18) rfl (w.heap.size+1) #[.string ⟨#[115,101,99,111,110,100]⟩,.string ⟨#[115]⟩,I 0,I 0,I 1,I 0,I 0,I 0,I 0,I 0,.string ⟨#[49]⟩,.string ⟨#[49]⟩,.string ⟨#[48]⟩,.string ⟨#[49]⟩,I 1] rfl rfl 30 _ (un HR4) (by rw[info27];rfl) rfl (by kernel_rfl) (hK _ _ trivial ?_)
 clear hK K
 refine wpR_done (by kernel_rfl) ?_
 go_wp2_with fail
 exact bodyPost_ret (v:=.agg #[.string ⟨#[115,101,99,111,110,100]⟩,.string ⟨#[115]⟩,I 0,I 0,I 1,I 0,I 0,I 0,I 0,I 0,.string ⟨#[49]⟩,.string ⟨#[49]⟩,.string ⟨#[48]⟩,.string ⟨#[49]⟩,I 1]) (res27 Tryz.results33 _ _ (w.heap.size+1) _ rfl rfl ((un HR4).setRow _)) rfl ⟨rfl,below_setRow (un HB4) (by omega) _⟩
set_option maxRecDepth 100000 in
set_option maxHeartbeats 4000000 in
theorem told_3 (w:World) (htab:Tab w):Calls Tryz.prog 33 #[.agg #[.string ⟨#[97,109,112,101,114,101]⟩,.string ⟨#[65]⟩,I 1,.func (.func 58) #[] #[]]] w fun r w'=>r=.returned (.agg #[.string ⟨#[97,109,112,101,114,101]⟩,.string ⟨#[65]⟩,I 0,I 0,I 0,I 1,I 0,I 0,I 0,I 0,.string ⟨#[49]⟩,.string ⟨#[49]⟩,.string ⟨#[48]⟩,.string ⟨#[49]⟩,I 1])∧Below w.heap.size w w':=by
 obtain⟨V,hV⟩:∃V,V=(w.alloc (.cells #[.string ⟨#[97,109,112,101,114,101]⟩,.string ⟨#[65]⟩,I 1,.func (.func 58) #[] #[]] 68)).alloc (.cells #[.string ⟨#[]⟩,.string ⟨#[]⟩,I 0,I 0,I 0,I 0,I 0,I 0,I 0,I 0,.string ⟨#[]⟩,.string ⟨#[]⟩,.string ⟨#[]⟩,.string ⟨#[]⟩,I 0] 30):=⟨_,rfl⟩
 have HA:Hid (OwnU V w.heap.size 68 #[.string ⟨#[97,109,112,101,114,101]⟩,.string ⟨#[65]⟩,I 1,.func (.func 58) #[] #[]]):=by rw[hV];exact(OwnU.new _ _ _).alloc _
 have HR:Hid (OwnU V (w.heap.size+1) 30 #[.string ⟨#[]⟩,.string ⟨#[]⟩,I 0,I 0,I 0,I 0,I 0,I 0,I 0,I 0,.string ⟨#[]⟩,.string ⟨#[]⟩,.string ⟨#[]⟩,.string ⟨#[]⟩,I 0]):=by rw[hV];have h:=OwnU.new (w.alloc (.cells #[.string ⟨#[97,109,112,101,114,101]⟩,.string ⟨#[65]⟩,I 1,.func (.func 58) #[] #[]] 68)) #[.string ⟨#[]⟩,.string ⟨#[]⟩,I 0,I 0,I 0,I 0,I 0,I 0,I 0,I 0,.string ⟨#[]⟩,.string ⟨#[]⟩,.string ⟨#[]⟩,.string ⟨#[]⟩,I 0] 30;rw[Dm.size_alloc]at h;exact h
 have HB:Hid (Below w.heap.size w V):=by rw[hV];exact((Below.refl _ _).alloc (Nat.le_refl _) _).alloc (by simp) _
 have HTA:Hid (∀W,Below w.heap.size w W→Tab W):=fun W h=>htab.later h
 have HV:=hide hV
 clear hV htab
 go_enter Tryz.func33,Tryz.ntmps33
 go_upto_region 1 with fail
 rw[←un HV]
 clear HV
 have c3:V.cell? ⟨w.heap.size,3,none⟩=some (.func (.func 58) #[] #[]):=(un HA).ub.c 3 _ rfl
 go_upto_region 2 with (go_at_call 58;go_must(refine(ampere_made _).mono ?_;rintro e W ⟨rfl,hb⟩;have HA1:=hide ((un HA).later hb);have HR1:=hide ((un HR).later hb);have HB1:=hide ((un HB).trans (hb.mono (un HB).size));clear hb c3 HA HR HB))
 have HX:Hid (OwnU (W.alloc (.cells #[I 0,I 0,I 0,I 1,I 0,I 0,I 0,I 0,I 1,I 1] 112)) W.heap.size 112 #[I 0,I 0,I 0,I 1,I 0,I 0,I 0,I 0,I 1,I 1]):=OwnU.new _ _ _
 have hal:Below W.heap.size W (W.alloc (.cells #[I 0,I 0,I 0,I 1,I 0,I 0,I 0,I 0,I 1,I 1] 112)):=(Below.refl _ _).alloc (Nat.le_refl _) _
 have HA2:=hide ((un HA1).later (hal.trans (((Below.refl _ _).drew).mono hal.size)));have HR2:=hide ((un HR1).later (hal.trans (((Below.refl _ _).drew).mono hal.size)));have HB2:=hide ((un HB1).trans (Below.mono (hal.trans (((Below.refl _ _).drew).mono hal.size)) (un HB1).size));have HX2:=hide ((un HX).later (Below.refl _ _).drew)
 obtain⟨g3,hg3⟩:∃g3,g3=W.heap.size:=⟨_,rfl⟩
 rw[←hg3]at HX2 ⊢
 clear hal HX HA1 HR1 HB1 hg3
 have HSS:Hid (∀W',OwnU W' w.heap.size 68 #[.string ⟨#[97,109,112,101,114,101]⟩,.string ⟨#[65]⟩,I 1,.func (.func 58) #[] #[]]→OwnU W' g3 112 #[I 0,I 0,I 0,I 1,I 0,I 0,I 0,I 0,I 1,I 1]→W'.cell? ⟨w.heap.size,0,none⟩=some (.string ⟨#[97,109,112,101,114,101]⟩)∧W'.cell? ⟨w.heap.size,1,none⟩=some (.string ⟨#[65]⟩)∧W'.cell? ⟨w.heap.size,2,none⟩=some (I 1)∧W'.cell? ⟨g3,0,none⟩=some (I 0)∧W'.cell? ⟨g3,1,none⟩=some (I 0)∧W'.cell? ⟨g3,2,none⟩=some (I 0)∧W'.cell? ⟨g3,3,none⟩=some (I 1)∧W'.cell? ⟨g3,4,none⟩=some (I 0)∧W'.cell? ⟨g3,5,none⟩=some (I 0)∧W'.cell? ⟨g3,6,none⟩=some (I 0)∧W'.cell? ⟨g3,7,none⟩=some (I 0)∧W'.cell? ⟨g3,8,none⟩=some (I 1)∧W'.cell? ⟨g3,9,none⟩=some (I 1)):=fun W' h h'=>⟨h.ub.c 0 _ rfl,h.ub.c 1 _ rfl,h.ub.c 2 _ rfl,h'.ub.c 0 _ rfl,h'.ub.c 1 _ rfl,h'.ub.c 2 _ rfl,h'.ub.c 3 _ rfl,h'.ub.c 4 _ rfl,h'.ub.c 5 _ rfl,h'.ub.c 6 _ rfl,h'.ub.c 7 _ rfl,h'.ub.c 8 _ rfl,h'.ub.c 9 _ rfl⟩
 have HS0:=hide (un HSS _ (un HA2) (un HX2))
 refine region_reads 12 (fun W'=>W'.cell? ⟨w.heap.size,0,none⟩=some (.string ⟨#[97,109,112,101,114,101]⟩)∧W'.cell? ⟨w.heap.size,1,none⟩=some (.string ⟨#[65]⟩)∧W'.cell? ⟨w.heap.size,2,none⟩=some (I 1)∧W'.cell? ⟨g3,0,none⟩=some (I 0)∧W'.cell? ⟨g3,1,none⟩=some (I 0)∧W'.cell? ⟨g3,2,none⟩=some (I 0)∧W'.cell? ⟨g3,3,none⟩=some (I 1)∧W'.cell? ⟨g3,4,none⟩=some (I 0)∧W'.cell? ⟨g3,5,none⟩=some (I 0)∧W'.cell? ⟨g3,6,none⟩=some (I 0)∧W'.cell? ⟨g3,7,none⟩=some (I 0)∧W'.cell? ⟨g3,8,none⟩=some (I 1)∧W'.cell? ⟨g3,9,none⟩=some (I 1)) (fun _=>True) 13 rfl (by kernel_rfl) ?_
 refine wpR_take (i:=0) (oi:=_) (v:=.pointer (some ⟨w.heap.size,0,none⟩)) rfl (by kernel_rfl) (by kernel_rfl) (by kernel_rfl) (by kernel_rfl) (fun _ _ _ h=>h) (Or.inl ⟨by rfl,?_⟩) ⟨un HS0,trivial⟩ ?_
 ·intro W' hW
  go_split_ands
  go_simp
 refine wpR_take (i:=1) (oi:=_) (v:=.string ⟨#[97,109,112,101,114,101]⟩) rfl (by kernel_rfl) (by kernel_rfl) (by kernel_rfl) (by kernel_rfl) (fun _ _ _ h=>h) (Or.inl ⟨by rfl,?_⟩) ⟨un HS0,trivial⟩ ?_
 ·intro W' hW
  go_split_ands
  go_simp
 refine wpR_take (i:=2) (oi:=_) (v:=.pointer (some ⟨w.heap.size,1,none⟩)) rfl (by kernel_rfl) (by kernel_rfl) (by kernel_rfl) (by kernel_rfl) (fun _ _ _ h=>h) (Or.inl ⟨by rfl,?_⟩) ⟨un HS0,trivial⟩ ?_
 ·intro W' hW
  go_split_ands
  go_simp
 refine wpR_take (i:=3) (oi:=_) (v:=.string ⟨#[65]⟩) rfl (by kernel_rfl) (by kernel_rfl) (by kernel_rfl) (by kernel_rfl) (fun _ _ _ h=>h) (Or.inl ⟨by rfl,?_⟩) ⟨un HS0,trivial⟩ ?_
 ·intro W' hW
  go_split_ands
  go_simp
 refine wpR_take (i:=4) (oi:=_) (v:=.pointer (some ⟨g3,0,none⟩)) rfl (by kernel_rfl) (by kernel_rfl) (by kernel_rfl) (by kernel_rfl) (fun _ _ _ h=>h) (Or.inl ⟨by rfl,?_⟩) ⟨un HS0,trivial⟩ ?_
 ·intro W' hW
  go_split_ands
  go_simp
 refine wpR_take (i:=5) (oi:=_) (v:=.agg #[I 0,I 0,I 0,I 1,I 0,I 0,I 0,I 0]) rfl (by kernel_rfl) (by kernel_rfl) (by kernel_rfl) (by kernel_rfl) (fun _ _ _ h=>h) (Or.inl ⟨by rfl,?_⟩) ⟨un HS0,trivial⟩ ?_
 ·intro W' hW
  go_split_ands
  go_simp
 refine wpR_take (i:=6) (oi:=_) (v:=.agg #[I 0,I 0,I 0,I 1,I 0,I 0,I 0,I 0,I 1,I 1]) rfl (by kernel_rfl) (by kernel_rfl) (by kernel_rfl) (by kernel_rfl) (fun _ _ _ h=>h) (Or.inl ⟨by rfl,?_⟩) ⟨un HS0,trivial⟩ ?_
 ·intro W' hW
  go_split_ands
  go_simp
 refine wpR_take (i:=9) (oi:=_) (v:=.pointer (some ⟨w.heap.size,2,none⟩)) rfl (by kernel_rfl) (by kernel_rfl) (by kernel_rfl) (by kernel_rfl) (fun _ _ _ h=>h) (Or.inl ⟨by rfl,?_⟩) ⟨un HS0,trivial⟩ ?_
 ·intro W' hW
  go_split_ands
  go_simp
 refine wpR_take (i:=10) (oi:=_) (v:=I 1) rfl (by kernel_rfl) (by kernel_rfl) (by kernel_rfl) (by kernel_rfl) (fun _ _ _ h=>h) (Or.inl ⟨by rfl,?_⟩) ⟨un HS0,trivial⟩ ?_
 ·intro W' hW
  go_split_ands
  go_simp
 clear HS0
 generalize (W.alloc (.cells #[I 0,I 0,I 0,I 1,I 0,I 0,I 0,I 0,I 1,I 1] 112)).drew=U0 at *
 refine wpR_op (i:=7) (o:=_) (by kernel_rfl) rfl rfl (fun K hK=>?_)
 go_simp
 refine(factor_any 0 0 0 1 0 0 0 0 1 1 (1) ⟨#[49]⟩ ⟨#[49]⟩ _ (by decide) (by decide) (by decide +kernel) (by decide +kernel) isR_one (un HTA _ (un HB2))).mono ?_
 rintro e U7 ⟨rfl,hb⟩
 have HA3:=hide ((un HA2).later hb);have HR3:=hide ((un HR2).later hb);have HX3:=hide ((un HX2).later hb);have HB3:=hide ((un HB2).trans (hb.mono (un HB2).size))
 clear hb
 refine hK _ _ ⟨un HSS _ (un HA3) (un HX3),trivial⟩ ?_
 clear hK K
 refine wpR_op (i:=8) (o:=_) (by kernel_rfl) rfl rfl (fun K hK=>?_)
 go_simp
 refine(zero_of _ (un HTA _ (un HB3))).mono ?_
 rintro e U8 ⟨rfl,hb⟩
 have HA4:=hide ((un HA3).later hb);have HR4:=hide ((un HR3).later hb);have HX4:=hide ((un HX3).later hb);have HB4:=hide ((un HB3).trans (hb.mono (un HB3).size))
 clear hb
 refine hK _ _ ⟨un HSS _ (un HA4) (un HX4),trivial⟩ ?_
 clear hK K
 refine wpR_op (i:=11) (o:=_) (by kernel_rfl) rfl rfl (fun K hK=>?_)
 go_simp
 refine hK _ _ ⟨un HSS _ (un HA4) (un HX4),trivial⟩ ?_
 clear hK K
 refine wpR_late (i:=12) (o:=_) (by kernel_rfl) rfl rfl (by kernel_rfl) (fun K hK=>?_)
 refine wp_store_row 30 (.tmp 2) (.tmp 18) rfl (w.heap.size+1) #[.string ⟨#[97,109,112,101,114,101]⟩,.string ⟨#[65]⟩,I 0,I 0,I 0,I 1,I 0,I 0,I 0,I 0,.string ⟨#[49]⟩,.string ⟨#[49]⟩,.string ⟨#[48]⟩,.string ⟨#[49]⟩,I 1] rfl rfl 30 _ (un HR4) (by rw[info27];rfl) rfl (by kernel_rfl) (hK _ _ trivial ?_)
 clear hK K
 refine wpR_done (by kernel_rfl) ?_
 go_wp2_with fail
 exact bodyPost_ret (v:=.agg #[.string ⟨#[97,109,112,101,114,101]⟩,.string ⟨#[65]⟩,I 0,I 0,I 0,I 1,I 0,I 0,I 0,I 0,.string ⟨#[49]⟩,.string ⟨#[49]⟩,.string ⟨#[48]⟩,.string ⟨#[49]⟩,I 1]) (res27 Tryz.results33 _ _ (w.heap.size+1) _ rfl rfl ((un HR4).setRow _)) rfl ⟨rfl,below_setRow (un HB4) (by omega) _⟩
end Go.Proofs.YthcbhnggphdflaaGreatDoor

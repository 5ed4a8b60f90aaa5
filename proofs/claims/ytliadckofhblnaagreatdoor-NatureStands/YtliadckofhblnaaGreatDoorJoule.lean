/- The joule. -/
import Derived.Test.YtliadckofhblnaaGreatDoorLimb3
import Derived.Test.YtliadckofhblnaaGreatDoorToldA
import Derived.Test.YtliadckofhblnaaGreatDoorOf
import Derived.Laws.EntriesVeiled
import Derived.Test.YtliadckofhblnaaGreatDoorPower
import Derived.Test.YtliadckofhblnaaGreatDoorGram
import Derived.Deep.Cut
set_option maxHeartbeats 16000000
set_option maxRecDepth 100000
namespace Go.Proofs.YtliadckofhblnaaGreatDoor
open Go.RowKit
theorem one_lt (E:Nat) (h:E=600):(1:Nat)<10 ^ E:=Nat.one_lt_pow (by omega) (by decide)
theorem zFx (E:Nat) (h:E=600):10 ^ 20≤10 ^ E:=Nat.pow_le_pow_right (by decide) (by omega)
theorem zDt {x:Rat} (h1:x.num.natAbs<10 ^ 20) (h2:x.den<10 ^ 20):Small x:=⟨Nat.lt_of_lt_of_le h1 (zFx 600 rfl),Nat.lt_of_lt_of_le h2 (zFx 600 rfl)⟩
theorem zCh (N:Nat) (hN:N<9223372036854775808):IsR (sT false N) ⟨#[49]⟩ (Cub.valQ false N 1):=by
 have hs:N<10 ^ 600:=u64_600 N (by omega);have hl:Cub.Low false N 1:=⟨by decide,Nat.gcd_one_right _,fun h=>by cases h⟩;obtain⟨e1,e2,e3⟩:=Cub.low_is hl;have hsm:Small (Cub.valQ false N 1):=⟨by rw[←e2];exact hs,by rw[←e3];exact one_lt 600 rfl⟩;refine⟨hsm,?_,?_⟩
 ·unfold zEp;rw[if_pos hsm,←e1,←e2]
 ·unfold zEr;rw[if_pos hsm,←e3];exact(zHk ⟨#[49]⟩ 1 (by decide) (by decide)).1
theorem zBf (s t:ByteArray) (N D:Nat) (x:Rat) (hN:x.num.natAbs=N) (hD:x.den=D) (hx:decide (x<0)=false) (bN:N<10 ^ 20) (bD:D<10 ^ 20)
  (h1:Cub.rightB s.data.toList=true) (v1:Cub.dval s.data.toList=N) (h2:Cub.rightB t.data.toList=true) (v2:Cub.dval t.data.toList=D):IsR s t x:=by
 have hsm:Small x:=zDt (by rw[hN];exact bN) (by rw[hD];exact bD);refine⟨hsm,?_,?_⟩
 ·unfold zEp;rw[if_pos hsm,hx,hN];unfold sT;rw[if_neg (by decide)];exact(zHk s N h1 v1).1
 ·unfold zEr;rw[if_pos hsm,hD];exact(zHk t D h2 v2).1
theorem zCa (a0 a1 a2 a3 a4 a5 a6 a7:Int) (N D:Nat) (q:Rat) (s t:ByteArray) (w:World) (hN:N<9223372036854775808) (hD:D<9223372036854775808) (hD0:Cub.valQ false D 1≠0) (hq:Cub.valQ false N 1*(Cub.valQ false D 1)⁻¹=q) (hs:IsR s t q) (htab:Tab w) :
  Calls Tryz.prog 226 #[.agg (J a0 a1 a2 a3 a4 a5 a6 a7 (N:Int) (D:Int))] w fun r w'=>r=.returned (.agg #[.string s,.string t])∧Bw w w':=by
 refine zGz a0 a1 a2 a3 a4 a5 a6 a7 (N:Int) (D:Int) (sT false N) ⟨#[49]⟩ (sT false D) ⟨#[49]⟩ s t w (fun W hb=>zCg N W hN (htab.later hb)) (fun W hb=>zCg D W hD (htab.later hb)) (fun W hb=>?_);have h:=zGq (sT false N) ⟨#[49]⟩ (sT false D) ⟨#[49]⟩ _ _ W (zCh N hN) (zCh D hD) hD0 (htab.later hb);unfold Ans at h
 rw[hq,show zHa q=0 from by unfold zHa;rw[if_pos hs.1],←hs.2.1,←hs.2.2]at h;exact h
theorem zAz:IsR ⟨#[49]⟩ ⟨#[49]⟩ 1:=zBf _ _ 1 1 _ (by decide +kernel) (by decide +kernel) (by decide +kernel) (by decide) (by decide) (by decide) (by decide) (by decide) (by decide)
theorem isR_milli:IsR ⟨#[49]⟩ ⟨#[49,48,48,48]⟩ (1 / 1000):=zBf _ _ 1 1000 _ (by decide +kernel) (by decide +kernel) (by decide +kernel) (by decide) (by decide) (by decide) (by decide) (by decide) (by decide)
theorem zFc (w:World) (htab:Tab w):Calls Tryz.prog 103 #[I 0] w fun r w'=>r=.returned (.agg #[G #[48],G #[49]])∧Bw w w':=by
 have h:=zCg 0 w (by decide) htab;rw[show sT false 0=⟨#[48]⟩from by unfold sT;rw[if_neg (by decide)];exact(zHk ⟨#[48]⟩ 0 (by decide) (by decide)).1.symm]at h;exact h
theorem zEd:(Tryz.prog.info? 30).map (·.size)=some 15:=by kernel_rfl
theorem res27 {fn:Func} {p:Tmp} (h:fn.results=#[.cell p 30]) (tmps:Array Value) (w:World) (g:Nat) (vs:Array Value) (hl:vs.size=15) (hp:tmps.getD p undef=.pointer (some ⟨g,0,none⟩)) (ho:zAc w g 30 vs) :
  (results fn tmps).run Tryz.prog w=.ok (.agg vs) w:=by
 rw[zBb h,hp];simp only[asAddr,Sem.run_pure,Result.andThen_ok];rw[run_loadVar_row w g 30 30 vs (0,0) _ ho Tryz.underlying30 rfl (by rw[zEd,hl])]
theorem res27b {fn:Func} {p u:Tmp} (h:fn.results=#[.cell p 30,.tmp u]) (tmps:Array Value) (w:World) (g:Nat) (vs:Array Value) (hl:vs.size=15) (hp:tmps.getD p undef=.pointer (some ⟨g,0,none⟩)) (ho:zAc w g 30 vs) :
  (results fn tmps).run Tryz.prog w=.ok (.tuple #[.agg vs,tmps.getD u undef]) w:=by
 rw[results_cell_tmp h,hp];simp only[asAddr,Sem.run_pure,Result.andThen_ok];rw[run_loadVar_row w g 30 30 vs (0,0) _ ho Tryz.underlying30 rfl (by rw[zEd,hl])]
 rfl
structure BL (w W:World) (row am:Array Value) (g:Nat):Prop where
 a:zAc W w.heap.size 171 row
 r:zAc W (w.heap.size+1) 30 #[G #[],G #[],I 0,I 0,I 0,I 0,I 0,I 0,I 0,I 0,G #[],G #[],G #[],G #[],I 0]
 x:zAc W g 235 am
 b:Below w.heap.size w W
 n:w.heap.size+1<g
theorem BL.later {w W V:World} {row am:Array Value} {g:Nat} (h:BL w W row am g) (hb:Below W.heap.size W V):BL w V row am g:=⟨h.a.later hb,h.r.later hb,h.x.later hb,h.b.trans (hb.mono h.b.size),h.n⟩
theorem toldB (dv:Nat→Int) (n d tk:Int) (f:Nat) (nm sy fn fd:ByteArray) (w:World)
  (hcf:∀W,(callFunc f #[]).run Tryz.prog W=.ok (.enter f #[]) W)
  (hma:∀W,Calls Tryz.prog f #[] W fun r w'=>r=.returned (.agg (J (dv 0) (dv 1) (dv 2) (dv 3) (dv 4) (dv 5) (dv 6) (dv 7) n d))∧Bw W w')
  (hfa:∀W,Below w.heap.size w W→Calls Tryz.prog 226 #[.agg (J (dv 0) (dv 1) (dv 2) (dv 3) (dv 4) (dv 5) (dv 6) (dv 7) n d)] W fun r w'=>r=.returned (.agg #[.string fn,.string fd])∧Bw W w')
  (hze:∀W,Below w.heap.size w W→Calls Tryz.prog 103 #[I 0] W fun r w'=>r=.returned (.agg #[G #[48],G #[49]])∧Bw W w') :
  Calls Tryz.prog 159 #[.agg #[.string nm,.string sy,I tk,.func (.func f) #[] #[]]] w fun r w'=>r=.returned (.agg #[.string nm,.string sy,I (dv 0),I (dv 1),I (dv 2),I (dv 3),I (dv 4),I (dv 5),I (dv 6),I (dv 7),.string fn,.string fd,G #[48],G #[49],I tk])∧Bw w w':=by
 obtain⟨V,hV⟩:∃V,V=(w.alloc (.cells #[.string nm,.string sy,I tk,.func (.func f) #[] #[]] 171)).alloc (.cells #[G #[],G #[],I 0,I 0,I 0,I 0,I 0,I 0,I 0,I 0,G #[],G #[],G #[],G #[],I 0] 30):=⟨_,rfl⟩;have HA:Hid (zAc V w.heap.size 171 #[.string nm,.string sy,I tk,.func (.func f) #[] #[]]):=by rw[hV];exact(zAc.new _ _ _).alloc _
 have HR:Hid (zAc V (w.heap.size+1) 30 #[G #[],G #[],I 0,I 0,I 0,I 0,I 0,I 0,I 0,I 0,G #[],G #[],G #[],G #[],I 0]):=by rw[hV];have h:=zAc.new (w.alloc (.cells #[.string nm,.string sy,I tk,.func (.func f) #[] #[]] 171)) #[G #[],G #[],I 0,I 0,I 0,I 0,I 0,I 0,I 0,I 0,G #[],G #[],G #[],G #[],I 0] 30;rw[Dm.size_alloc]at h;exact h
 have HB:Hid (Bw w V):=by rw[hV];exact bA.alloc (by simp) _
 have HMA:=zAb hma;have HFA:=zAb hfa;have HZE:=zAb hze;have HV:=zAb hV;clear hV hma hfa hze;go_enter Tryz.func159,Tryz.ntmps159
 go_upto_region 1 with fail
 rw[←un HV];clear HV;have c3:V.cell? ⟨w.heap.size,3,none⟩=some (.func (.func f) #[] #[]):=(un HA).ub.c 3 _ rfl
 go_wp2_with fail
 refine(un HMA _).mono ?_;rintro e w1 ⟨rfl,hb⟩;have HA1:=zAb ((un HA).later hb);have HR1:=zAb ((un HR).later hb);have HB1:Hid (Bw w w1):=bt HB hb;clear hb c3 HA HR HB hcf HMA
 go_upto_region 2 with (refine zAn 235 10 zCv rfl (.tmp 3) (.tmp 6) rfl w1.heap.size (J 0 0 0 0 0 0 0 0 0 0) (J (dv 0) (dv 1) (dv 2) (dv 3) (dv 4) (dv 5) (dv 6) (dv 7) n d) rfl rfl rfl rfl (zAc.new _ _ _) (by kernel_rfl) ?_)
 have hb2:Below w1.heap.size w1 ((w1.alloc (.cells (J 0 0 0 0 0 0 0 0 0 0) 235)).setRow w1.heap.size (J (dv 0) (dv 1) (dv 2) (dv 3) (dv 4) (dv 5) (dv 6) (dv 7) n d)):=below_setRow bA (Nat.le_refl _) _;have HT0:Hid (BL w ((w1.alloc (.cells (J 0 0 0 0 0 0 0 0 0 0) 235)).setRow w1.heap.size (J (dv 0) (dv 1) (dv 2) (dv 3) (dv 4) (dv 5) (dv 6) (dv 7) n d)) #[.string nm,.string sy,I tk,.func (.func f) #[] #[]] (J (dv 0) (dv 1) (dv 2) (dv 3) (dv 4) (dv 5) (dv 6) (dv 7) n d) w1.heap.size):=⟨(un HA1).later hb2,(un HR1).later hb2,(zAc.new _ _ _).setRow _,bt HB1 hb2,(un HR1).lt⟩;clear hb2 HA1 HR1 HB1;generalize (w1.alloc (.cells (J 0 0 0 0 0 0 0 0 0 0) 235)).setRow w1.heap.size (J (dv 0) (dv 1) (dv 2) (dv 3) (dv 4) (dv 5) (dv 6) (dv 7) n d)=w2 at *
 generalize w1.heap.size=g3 at *
 have HT1:Hid (BL w w2.drew #[.string nm,.string sy,I tk,.func (.func f) #[] #[]] (J (dv 0) (dv 1) (dv 2) (dv 3) (dv 4) (dv 5) (dv 6) (dv 7) n d) g3):=(un HT0).later (Below.refl _ _).drew;have HSS:Hid (∀W':World,BL w W' #[.string nm,.string sy,I tk,.func (.func f) #[] #[]] (J (dv 0) (dv 1) (dv 2) (dv 3) (dv 4) (dv 5) (dv 6) (dv 7) n d) g3→W'.cell? ⟨w.heap.size,0,none⟩=some (.string nm)∧W'.cell? ⟨w.heap.size,1,none⟩=some (.string sy)∧W'.cell? ⟨w.heap.size,2,none⟩=some (I tk)∧W'.cell? ⟨g3,0,none⟩=some (I (dv 0))∧W'.cell? ⟨g3,1,none⟩=some (I (dv 1))∧W'.cell? ⟨g3,2,none⟩=some (I (dv 2))∧W'.cell? ⟨g3,3,none⟩=some (I (dv 3))∧W'.cell? ⟨g3,4,none⟩=some (I (dv 4))∧W'.cell? ⟨g3,5,none⟩=some (I (dv 5))∧W'.cell? ⟨g3,6,none⟩=some (I (dv 6))∧W'.cell? ⟨g3,7,none⟩=some (I (dv 7))∧W'.cell? ⟨g3,8,none⟩=some (I n)∧W'.cell? ⟨g3,9,none⟩=some (I d)):=fun W' h=>⟨h.a.ub.c 0 _ rfl,h.a.ub.c 1 _ rfl,h.a.ub.c 2 _ rfl,h.x.ub.c 0 _ rfl,h.x.ub.c 1 _ rfl,h.x.ub.c 2 _ rfl,h.x.ub.c 3 _ rfl,h.x.ub.c 4 _ rfl,h.x.ub.c 5 _ rfl,h.x.ub.c 6 _ rfl,h.x.ub.c 7 _ rfl,h.x.ub.c 8 _ rfl,h.x.ub.c 9 _ rfl⟩
 have HS0:=zAb (un HSS _ (un HT1));clear HT0;refine zAi 12 (fun W'=>W'.cell? ⟨w.heap.size,0,none⟩=some (.string nm)∧W'.cell? ⟨w.heap.size,1,none⟩=some (.string sy)∧W'.cell? ⟨w.heap.size,2,none⟩=some (I tk)∧W'.cell? ⟨g3,0,none⟩=some (I (dv 0))∧W'.cell? ⟨g3,1,none⟩=some (I (dv 1))∧W'.cell? ⟨g3,2,none⟩=some (I (dv 2))∧W'.cell? ⟨g3,3,none⟩=some (I (dv 3))∧W'.cell? ⟨g3,4,none⟩=some (I (dv 4))∧W'.cell? ⟨g3,5,none⟩=some (I (dv 5))∧W'.cell? ⟨g3,6,none⟩=some (I (dv 6))∧W'.cell? ⟨g3,7,none⟩=some (I (dv 7))∧W'.cell? ⟨g3,8,none⟩=some (I n)∧W'.cell? ⟨g3,9,none⟩=some (I d)) (fun _=>True) 13 rfl (by kernel_rfl) ?_;generalize w2.drew=U1 at *
 refine wT 0 (.pointer (some ⟨w.heap.size,0,none⟩)) rfl (Or.inl ⟨by rfl,?_⟩) ⟨un HS0,trivial⟩ ?_
 ·intro W' hW
  go_split_ands
  go_simp
 refine wT 1 (.string nm) rfl (Or.inl ⟨by rfl,?_⟩) ⟨un HS0,trivial⟩ ?_
 ·intro W' hW
  go_split_ands
  go_simp
 refine wT 2 (.pointer (some ⟨w.heap.size,1,none⟩)) rfl (Or.inl ⟨by rfl,?_⟩) ⟨un HS0,trivial⟩ ?_
 ·intro W' hW
  go_split_ands
  go_simp
 refine wT 3 (.string sy) rfl (Or.inl ⟨by rfl,?_⟩) ⟨un HS0,trivial⟩ ?_
 ·intro W' hW
  go_split_ands
  go_simp
 refine wT 4 (.pointer (some ⟨g3,0,none⟩)) rfl (Or.inl ⟨by rfl,?_⟩) ⟨un HS0,trivial⟩ ?_
 ·intro W' hW
  go_split_ands
  go_simp
 refine wT 5 (.agg #[I (dv 0),I (dv 1),I (dv 2),I (dv 3),I (dv 4),I (dv 5),I (dv 6),I (dv 7)]) rfl (Or.inl ⟨by rfl,?_⟩) ⟨un HS0,trivial⟩ ?_
 ·intro W' hW
  go_split_ands
  go_simp
 refine wT 6 (.agg (J (dv 0) (dv 1) (dv 2) (dv 3) (dv 4) (dv 5) (dv 6) (dv 7) n d)) rfl (Or.inl ⟨by rfl,?_⟩) ⟨un HS0,trivial⟩ ?_
 ·intro W' hW
  go_split_ands
  go_simp
 refine wT 9 (.pointer (some ⟨w.heap.size,2,none⟩)) rfl (Or.inl ⟨by rfl,?_⟩) ⟨un HS0,trivial⟩ ?_
 ·intro W' hW
  go_split_ands
  go_simp
 refine wT 10 (I tk) rfl (Or.inl ⟨by rfl,?_⟩) ⟨un HS0,trivial⟩ ?_
 ·intro W' hW
  go_split_ands
  go_simp
 refine wO 7 rfl rfl (fun K hK=>?_)
 go_simp
 refine(un HFA _ (un HT1).b).mono ?_;rintro e U2 ⟨rfl,hb⟩;have HT2:=zAb ((un HT1).later hb);clear hb HT1;refine hK _ _ ⟨un HSS _ (un HT2),trivial⟩ ?_;clear hK K;refine wO 8 rfl rfl (fun K hK=>?_)
 go_simp
 refine(un HZE _ (un HT2).b).mono ?_;rintro e U3 ⟨rfl,hb⟩;have HT3:=zAb ((un HT2).later hb);clear hb HT2;refine hK _ _ ⟨un HSS _ (un HT3),trivial⟩ ?_;clear hK K;refine wO 11 rfl rfl (fun K hK=>?_)
 go_simp
 refine hK _ _ ⟨un HSS _ (un HT3),trivial⟩ ?_;clear hK K;refine wL 12 rfl rfl (fun K hK=>?_);refine wp_store_row 30 (.tmp 2) (.tmp 18) rfl (w.heap.size+1) #[.string nm,.string sy,I (dv 0),I (dv 1),I (dv 2),I (dv 3),I (dv 4),I (dv 5),I (dv 6),I (dv 7),.string fn,.string fd,G #[48],G #[49],I tk] (by kernel_rfl) (by kernel_rfl) 30 _ (un HT3).r (by rw[zEd];rfl) rfl (by kernel_rfl) (hK _ _ trivial ?_);clear hK K;refine wDn ?_
 go_wp2_with fail
 exact bodyPost_ret (v:=.agg #[.string nm,.string sy,I (dv 0),I (dv 1),I (dv 2),I (dv 3),I (dv 4),I (dv 5),I (dv 6),I (dv 7),.string fn,.string fd,G #[48],G #[49],I tk]) (res27 Tryz.results159 _ _ (w.heap.size+1) _ rfl rfl ((un HT3).r.setRow _)) rfl ⟨rfl,below_setRow (un HT3).b (by omega) _⟩
end Go.Proofs.YtliadckofhblnaaGreatDoor
namespace Go.Proofs.YtliadckofhblnaaGreatDoor
section
variable {P:Program} {ops:Array Oper} {Q:Exit→Act→World→Prop} {md:Region.Mode} {S S7:World→Prop} {k:Nat}
theorem wpR_some {n:Nat} {l:Array Bool} {a:Act} {w:World} (rs:List Nat) (hr:Region.ready md ops l=rs) (hne:rs≠[])
  (h:∀i∈rs,∃o,ops[i]?=some o∧o.guard=none∧∀K:Act→World→Prop,(∀a' w',S w'∧S7 w'→wpR P md ops Q k S S7 n (l.setIfInBounds i true) a' w'→K a' w')→Oper.wp P o a w K Q):wpR P md ops Q k S S7 (n+1) l a w:=by
 refine⟨fun h0=>absurd (hr.symm.trans h0) hne,fun j hj=>?_⟩;rw[hr]at hj;obtain⟨o,ho,hg,hs⟩:=h j hj;unfold wpOp;simp only[ho];have hw:Region.wanted o (yielded ops a.tmps)=true:=by simp[Region.wanted,hg]
 rw[if_pos hw];exact Or.inl (hs _ fun a' w' h1 h2=>⟨⟨fun _=>h1.1,h1.2⟩,h2⟩)
theorem zBn {i j n:Nat} {oi oj:Oper} {l:Array Bool} {a:Act} {w:World} (hr:Region.ready md ops l=[i,j]) (hi:ops[i]?=some oi) (gi:oi.guard=none) (hj:ops[j]?=some oj) (gj:oj.guard=none)
  (si:∀K:Act→World→Prop,(∀a' w',S w'∧S7 w'→wpR P md ops Q k S S7 n (l.setIfInBounds i true) a' w'→K a' w')→Oper.wp P oi a w K Q)
  (sj:∀K:Act→World→Prop,(∀a' w',S w'∧S7 w'→wpR P md ops Q k S S7 n (l.setIfInBounds j true) a' w'→K a' w')→Oper.wp P oj a w K Q):wpR P md ops Q k S S7 (n+1) l a w:=by
 refine wpR_some [i,j] hr (by simp) fun q hq=>?_
 rcases List.mem_cons.1 hq with rfl|hq
 ·exact⟨oi,hi,gi,si⟩
 ·obtain rfl:=List.mem_singleton.1 hq
  exact⟨oj,hj,gj,sj⟩
end
end Go.Proofs.YtliadckofhblnaaGreatDoor
namespace Go.Proofs.YtliadckofhblnaaGreatDoor
open Go.RowKit
theorem zBx (W:World) (O:Obj):Below W.heap.size W (W.alloc O):=(Below.refl _ _).alloc (Nat.le_refl _) O
structure JS (w W:World):Prop where
  m:zAc W w.heap.size 235 (J 1 0 0 0 0 0 0 0 1 1)
  g:zAc W (w.heap.size+1) 235 (J 0 1 0 0 0 0 0 0 1 1000)
  s:zAc W (w.heap.size+2) 235 (J 0 0 1 0 0 0 0 0 1 1)
  r:zAc W (w.heap.size+3) 235 (J 0 0 0 0 0 0 0 0 0 0)
  below:Below w.heap.size w W
theorem JS.later {w W V:World} (h:JS w W) (hb:Below W.heap.size W V):JS w V:=⟨h.m.later hb,h.g.later hb,h.s.later hb,h.r.later hb,h.below.trans (hb.mono h.below.size)⟩
theorem zAc.otherRow {W:World} {g k ty:Nat} {vs us:Array Value} (h:zAc W g ty vs) (hk:¬k=g):zAc (W.setRow k us) g ty vs:=by
  unfold zAc World.setRow at *
  simp only[Array.getElem?_modify,if_neg hk,h]
theorem JS.row {w W:World} {g:Nat} (h:JS w W) (hg:w.heap.size+3<g) (us:Array Value):JS w (W.setRow g us) :=
  ⟨h.m.otherRow (by omega),h.g.otherRow (by omega),h.s.otherRow (by omega),h.r.otherRow (by omega),below_setRow h.below (by omega) _⟩
theorem JS.first (w:World):JS w ((((w.alloc (.cells (J 1 0 0 0 0 0 0 0 1 1) 235)).alloc (.cells (J 0 1 0 0 0 0 0 0 1 1000) 235)).alloc (.cells (J 0 0 1 0 0 0 0 0 1 1) 235)).alloc (.cells (J 0 0 0 0 0 0 0 0 0 0) 235)) :=
  ⟨(((zAc.new w _ 235).alloc _).alloc _).alloc _,
   by have h:=((zAc.new (w.alloc (.cells (J 1 0 0 0 0 0 0 0 1 1) 235)) (J 0 1 0 0 0 0 0 0 1 1000) 235).alloc (.cells (J 0 0 1 0 0 0 0 0 1 1) 235)).alloc (.cells (J 0 0 0 0 0 0 0 0 0 0) 235);rw[Dm.size_alloc]at h;exact h,
   by have h:=(zAc.new ((w.alloc (.cells (J 1 0 0 0 0 0 0 0 1 1) 235)).alloc (.cells (J 0 1 0 0 0 0 0 0 1 1000) 235)) (J 0 0 1 0 0 0 0 0 1 1) 235).alloc (.cells (J 0 0 0 0 0 0 0 0 0 0) 235);rw[Dm.size_alloc,Dm.size_alloc]at h;exact h,
   by have h:=zAc.new (((w.alloc (.cells (J 1 0 0 0 0 0 0 0 1 1) 235)).alloc (.cells (J 0 1 0 0 0 0 0 0 1 1000) 235)).alloc (.cells (J 0 0 1 0 0 0 0 0 1 1) 235)) (J 0 0 0 0 0 0 0 0 0 0) 235;rw[Dm.size_alloc,Dm.size_alloc,Dm.size_alloc]at h;exact h,
   ((bA.alloc (by simp) _).alloc (by simp;omega) _).alloc (by simp;omega) _⟩
theorem joule_made (w:World):Calls Tryz.prog 264 #[.agg (J 1 0 0 0 0 0 0 0 1 1),.agg (J 0 1 0 0 0 0 0 0 1 1000),.agg (J 0 0 1 0 0 0 0 0 1 1)] w fun r w'=>r=.returned (.agg (J 2 1 (-2) 0 0 0 0 0 1000 1000))∧Bw w w':=by
  obtain⟨V,hV⟩:∃V,V=((((w.alloc (.cells (J 1 0 0 0 0 0 0 0 1 1) 235)).alloc (.cells (J 0 1 0 0 0 0 0 0 1 1000) 235)).alloc (.cells (J 0 0 1 0 0 0 0 0 1 1) 235)).alloc (.cells (J 0 0 0 0 0 0 0 0 0 0) 235)):=⟨_,rfl⟩;have HJ:Hid (JS w V):=by rw[hV];exact JS.first w
  have HV:=zAb hV;clear hV;have HSS:Hid (∀W',JS w W'→W'.cell? ⟨w.heap.size,0,none⟩=some (I 1)∧W'.cell? ⟨w.heap.size,1,none⟩=some (I 0)∧W'.cell? ⟨w.heap.size,2,none⟩=some (I 0)∧W'.cell? ⟨w.heap.size,3,none⟩=some (I 0)∧W'.cell? ⟨w.heap.size,4,none⟩=some (I 0)∧W'.cell? ⟨w.heap.size,5,none⟩=some (I 0)∧W'.cell? ⟨w.heap.size,6,none⟩=some (I 0)∧W'.cell? ⟨w.heap.size,7,none⟩=some (I 0)∧W'.cell? ⟨w.heap.size,8,none⟩=some (I 1)∧W'.cell? ⟨w.heap.size,9,none⟩=some (I 1)∧W'.cell? ⟨w.heap.size+1,0,none⟩=some (I 0)∧W'.cell? ⟨w.heap.size+1,1,none⟩=some (I 1)∧W'.cell? ⟨w.heap.size+1,2,none⟩=some (I 0)∧W'.cell? ⟨w.heap.size+1,3,none⟩=some (I 0)∧W'.cell? ⟨w.heap.size+1,4,none⟩=some (I 0)∧W'.cell? ⟨w.heap.size+1,5,none⟩=some (I 0)∧W'.cell? ⟨w.heap.size+1,6,none⟩=some (I 0)∧W'.cell? ⟨w.heap.size+1,7,none⟩=some (I 0)∧W'.cell? ⟨w.heap.size+1,8,none⟩=some (I 1)∧W'.cell? ⟨w.heap.size+1,9,none⟩=some (I 1000)∧W'.cell? ⟨w.heap.size+2,0,none⟩=some (I 0)∧W'.cell? ⟨w.heap.size+2,1,none⟩=some (I 0)∧W'.cell? ⟨w.heap.size+2,2,none⟩=some (I 1)∧W'.cell? ⟨w.heap.size+2,3,none⟩=some (I 0)∧W'.cell? ⟨w.heap.size+2,4,none⟩=some (I 0)∧W'.cell? ⟨w.heap.size+2,5,none⟩=some (I 0)∧W'.cell? ⟨w.heap.size+2,6,none⟩=some (I 0)∧W'.cell? ⟨w.heap.size+2,7,none⟩=some (I 0)∧W'.cell? ⟨w.heap.size+2,8,none⟩=some (I 1)∧W'.cell? ⟨w.heap.size+2,9,none⟩=some (I 1)):=fun W' h=>⟨h.m.ub.c 0 _ rfl,h.m.ub.c 1 _ rfl,h.m.ub.c 2 _ rfl,h.m.ub.c 3 _ rfl,h.m.ub.c 4 _ rfl,h.m.ub.c 5 _ rfl,h.m.ub.c 6 _ rfl,h.m.ub.c 7 _ rfl,h.m.ub.c 8 _ rfl,h.m.ub.c 9 _ rfl,h.g.ub.c 0 _ rfl,h.g.ub.c 1 _ rfl,h.g.ub.c 2 _ rfl,h.g.ub.c 3 _ rfl,h.g.ub.c 4 _ rfl,h.g.ub.c 5 _ rfl,h.g.ub.c 6 _ rfl,h.g.ub.c 7 _ rfl,h.g.ub.c 8 _ rfl,h.g.ub.c 9 _ rfl,h.s.ub.c 0 _ rfl,h.s.ub.c 1 _ rfl,h.s.ub.c 2 _ rfl,h.s.ub.c 3 _ rfl,h.s.ub.c 4 _ rfl,h.s.ub.c 5 _ rfl,h.s.ub.c 6 _ rfl,h.s.ub.c 7 _ rfl,h.s.ub.c 8 _ rfl,h.s.ub.c 9 _ rfl⟩
  go_enter Tryz.func264,Tryz.ntmps264
  go_upto_region 1 with fail
  rw[←un HV];clear HV;go_cut [7]from 8 (fun s9 wx=>∃g,s9=.pointer (some ⟨g,0,none⟩)∧Hid (zAc wx g 235 (J 1 1 (-2) 0 0 0 0 0 1000 1000))∧Hid (JS w wx))
  case first=>
    have HJ0:=zAb ((un HJ).later ((Below.refl _ _).drew));have HS0:=zAb (un HSS _ (un HJ0));refine zAi 10 (fun W'=>W'.cell? ⟨w.heap.size,0,none⟩=some (I 1)∧W'.cell? ⟨w.heap.size,1,none⟩=some (I 0)∧W'.cell? ⟨w.heap.size,2,none⟩=some (I 0)∧W'.cell? ⟨w.heap.size,3,none⟩=some (I 0)∧W'.cell? ⟨w.heap.size,4,none⟩=some (I 0)∧W'.cell? ⟨w.heap.size,5,none⟩=some (I 0)∧W'.cell? ⟨w.heap.size,6,none⟩=some (I 0)∧W'.cell? ⟨w.heap.size,7,none⟩=some (I 0)∧W'.cell? ⟨w.heap.size,8,none⟩=some (I 1)∧W'.cell? ⟨w.heap.size,9,none⟩=some (I 1)∧W'.cell? ⟨w.heap.size+1,0,none⟩=some (I 0)∧W'.cell? ⟨w.heap.size+1,1,none⟩=some (I 1)∧W'.cell? ⟨w.heap.size+1,2,none⟩=some (I 0)∧W'.cell? ⟨w.heap.size+1,3,none⟩=some (I 0)∧W'.cell? ⟨w.heap.size+1,4,none⟩=some (I 0)∧W'.cell? ⟨w.heap.size+1,5,none⟩=some (I 0)∧W'.cell? ⟨w.heap.size+1,6,none⟩=some (I 0)∧W'.cell? ⟨w.heap.size+1,7,none⟩=some (I 0)∧W'.cell? ⟨w.heap.size+1,8,none⟩=some (I 1)∧W'.cell? ⟨w.heap.size+1,9,none⟩=some (I 1000)∧W'.cell? ⟨w.heap.size+2,0,none⟩=some (I 0)∧W'.cell? ⟨w.heap.size+2,1,none⟩=some (I 0)∧W'.cell? ⟨w.heap.size+2,2,none⟩=some (I 1)∧W'.cell? ⟨w.heap.size+2,3,none⟩=some (I 0)∧W'.cell? ⟨w.heap.size+2,4,none⟩=some (I 0)∧W'.cell? ⟨w.heap.size+2,5,none⟩=some (I 0)∧W'.cell? ⟨w.heap.size+2,6,none⟩=some (I 0)∧W'.cell? ⟨w.heap.size+2,7,none⟩=some (I 0)∧W'.cell? ⟨w.heap.size+2,8,none⟩=some (I 1)∧W'.cell? ⟨w.heap.size+2,9,none⟩=some (I 1)) (fun _=>True) 11 rfl (by kernel_rfl) ?_;refine wT 1 (.agg (J 0 1 0 0 0 0 0 0 1 1000)) rfl (Or.inl ⟨by rfl,?_⟩) ⟨un HS0,trivial⟩ ?_
    · intro W' hW
      go_split_ands
      go_simp
    refine wT 3 (.agg (J 1 0 0 0 0 0 0 0 1 1)) rfl (Or.inl ⟨by rfl,?_⟩) ⟨un HS0,trivial⟩ ?_
    · intro W' hW
      go_split_ands
      go_simp
    refine wT 5 (.agg (J 0 0 1 0 0 0 0 0 1 1)) rfl (Or.inl ⟨by rfl,?_⟩) ⟨un HS0,trivial⟩ ?_
    · intro W' hW
      go_split_ands
      go_simp
    refine wT 7 (.agg (J 0 0 1 0 0 0 0 0 1 1)) rfl (Or.inl ⟨by rfl,?_⟩) ⟨un HS0,trivial⟩ ?_
    · intro W' hW
      go_split_ands
      go_simp
    clear HS0 HJ;generalize V.drew=W0 at *
    refine zBn (i:=0) (j:=9) (by kernel_rfl) rfl rfl rfl rfl (fun K hK=>?_) (fun K hK=>?_)
    · skip
      go_simp
      refine(zEv 1000 _).mono ?_;rintro e W1 ⟨rfl,hb⟩;have HJ1:=zAb ((un HJ0).later hb);clear hb;refine hK _ _ ⟨un HSS _ (un HJ1),trivial⟩ ?_;clear hK K;refine zBn (i:=2) (j:=9) (by kernel_rfl) rfl rfl rfl rfl (fun K hK=>?_) (fun K hK=>?_)
      · skip
        go_simp
        refine(zDf 0 0 0 0 0 0 0 0 1000 1 0 1 0 0 0 0 0 0 1 1000 0 1 0 0 0 0 0 0 1000 1000 _ (by decide +kernel) (by decide +kernel) (by decide +kernel)).mono ?_;rintro e W2 ⟨rfl,hb⟩;have HJ2:=zAb ((un HJ1).later hb);clear hb;refine hK _ _ ⟨un HSS _ (un HJ2),trivial⟩ ?_;clear hK K;refine zBn (i:=4) (j:=9) (by kernel_rfl) rfl rfl rfl rfl (fun K hK=>?_) (fun K hK=>?_)
        · skip
          go_simp
          refine(zDf 0 1 0 0 0 0 0 0 1000 1000 1 0 0 0 0 0 0 0 1 1 1 1 0 0 0 0 0 0 1000 1000 _ (by decide +kernel) (by decide +kernel) (by decide +kernel)).mono ?_;rintro e W3 ⟨rfl,hb⟩;have HJ3:=zAb ((un HJ2).later hb);clear hb;refine hK _ _ ⟨un HSS _ (un HJ3),trivial⟩ ?_;clear hK K;refine zBn (i:=6) (j:=9) (by kernel_rfl) rfl rfl rfl rfl (fun K hK=>?_) (fun K hK=>?_)
          · skip
            go_simp
            refine(zFm 1 1 0 0 0 0 0 0 1000 1000 0 0 1 0 0 0 0 0 1 1 1 1 (-1) 0 0 0 0 0 1000 1000 _ (by decide +kernel) (by decide +kernel) (by decide +kernel)).mono ?_;rintro e W4 ⟨rfl,hb⟩;have HJ4:=zAb ((un HJ3).later hb);clear hb;refine hK _ _ ⟨un HSS _ (un HJ4),trivial⟩ ?_;clear hK K;refine zBn (i:=8) (j:=9) (by kernel_rfl) rfl rfl rfl rfl (fun K hK=>?_) (fun K hK=>?_)
            · skip
              go_simp
              refine(zFm 1 1 (-1) 0 0 0 0 0 1000 1000 0 0 1 0 0 0 0 0 1 1 1 1 (-2) 0 0 0 0 0 1000 1000 _ (by decide +kernel) (by decide +kernel) (by decide +kernel)).mono ?_;rintro e W5 ⟨rfl,hb⟩;have HJ5:=zAb ((un HJ4).later hb);clear hb;refine hK _ _ ⟨un HSS _ (un HJ5),trivial⟩ ?_;clear hK K;refine wO 9 rfl rfl (fun K hK=>?_)
              go_simp
              have hb:=zBx W5 (.cells (J 0 0 0 0 0 0 0 0 0 0) 235);have HJ6:=zAb ((un HJ5).later hb);refine hK _ _ ⟨un HSS _ (un HJ6),trivial⟩ ?_;clear hK K hb;have HZ6:Hid (zAc (W5.alloc (.cells (J 0 0 0 0 0 0 0 0 0 0) 235)) W5.heap.size 235 (J 0 0 0 0 0 0 0 0 0 0)):=zAc.new _ _ _;have HL:Hid (w.heap.size+3<W5.heap.size):=(un HJ5).r.lt;obtain⟨W6,hW6⟩:∃W6,W6=W5.alloc (.cells (J 0 0 0 0 0 0 0 0 0 0) 235):=⟨_,rfl⟩;obtain⟨g7,hg7⟩:∃g7,g7=W5.heap.size:=⟨_,rfl⟩;rw[←hW6]at HJ6 HZ6 ⊢;rw[←hg7]at HZ6 HL ⊢;clear hW6 hg7;refine wL 10 rfl rfl (fun K hK=>?_);refine wp_store_row 235 (.tmp 7) (.tmp 16) rfl g7 (J 1 1 (-2) 0 0 0 0 0 1000 1000) rfl rfl 235 _ (un HZ6) (by rw[zCv];rfl) rfl (by kernel_rfl) (hK _ _ trivial ?_);clear hK K;refine wDn ?_;have HN:=zAb ((un HZ6).setRow (J 1 1 (-2) 0 0 0 0 0 1000 1000));have HJN:Hid (JS w (W6.setRow g7 (J 1 1 (-2) 0 0 0 0 0 1000 1000))):=(un HJ6).row (un HL) _;generalize W6.setRow g7 (J 1 1 (-2) 0 0 0 0 0 1000 1000)=U at HN HJN ⊢
              go_wp2_with fail
              go_meet
              exact⟨g7,rfl,un HN,un HJN⟩
            · skip
              go_simp
              have hb:=zBx W4 (.cells (J 0 0 0 0 0 0 0 0 0 0) 235);have HJ5:=zAb ((un HJ4).later hb);refine hK _ _ ⟨un HSS _ (un HJ5),trivial⟩ ?_;clear hK K hb;have HZ5:Hid (zAc (W4.alloc (.cells (J 0 0 0 0 0 0 0 0 0 0) 235)) W4.heap.size 235 (J 0 0 0 0 0 0 0 0 0 0)):=zAc.new _ _ _;have HL:Hid (w.heap.size+3<W4.heap.size):=(un HJ4).r.lt;obtain⟨W5,hW5⟩:∃W5,W5=W4.alloc (.cells (J 0 0 0 0 0 0 0 0 0 0) 235):=⟨_,rfl⟩;obtain⟨g7,hg7⟩:∃g7,g7=W4.heap.size:=⟨_,rfl⟩;rw[←hW5]at HJ5 HZ5 ⊢;rw[←hg7]at HZ5 HL ⊢;clear hW5 hg7;refine wO 8 rfl rfl (fun K hK=>?_)
              go_simp
              refine(zFm 1 1 (-1) 0 0 0 0 0 1000 1000 0 0 1 0 0 0 0 0 1 1 1 1 (-2) 0 0 0 0 0 1000 1000 _ (by decide +kernel) (by decide +kernel) (by decide +kernel)).mono ?_;rintro e W6 ⟨rfl,hb⟩;have HJ6:=zAb ((un HJ5).later hb);have HZ6:=zAb ((un HZ5).later hb);clear hb;refine hK _ _ ⟨un HSS _ (un HJ6),trivial⟩ ?_;clear hK K;refine wL 10 rfl rfl (fun K hK=>?_);refine wp_store_row 235 (.tmp 7) (.tmp 16) rfl g7 (J 1 1 (-2) 0 0 0 0 0 1000 1000) rfl rfl 235 _ (un HZ6) (by rw[zCv];rfl) rfl (by kernel_rfl) (hK _ _ trivial ?_);clear hK K;refine wDn ?_;have HN:=zAb ((un HZ6).setRow (J 1 1 (-2) 0 0 0 0 0 1000 1000));have HJN:Hid (JS w (W6.setRow g7 (J 1 1 (-2) 0 0 0 0 0 1000 1000))):=(un HJ6).row (un HL) _;generalize W6.setRow g7 (J 1 1 (-2) 0 0 0 0 0 1000 1000)=U at HN HJN ⊢
              go_wp2_with fail
              go_meet
              exact⟨g7,rfl,un HN,un HJN⟩
          · skip
            go_simp
            have hb:=zBx W3 (.cells (J 0 0 0 0 0 0 0 0 0 0) 235);have HJ4:=zAb ((un HJ3).later hb);refine hK _ _ ⟨un HSS _ (un HJ4),trivial⟩ ?_;clear hK K hb;have HZ4:Hid (zAc (W3.alloc (.cells (J 0 0 0 0 0 0 0 0 0 0) 235)) W3.heap.size 235 (J 0 0 0 0 0 0 0 0 0 0)):=zAc.new _ _ _;have HL:Hid (w.heap.size+3<W3.heap.size):=(un HJ3).r.lt;obtain⟨W4,hW4⟩:∃W4,W4=W3.alloc (.cells (J 0 0 0 0 0 0 0 0 0 0) 235):=⟨_,rfl⟩;obtain⟨g7,hg7⟩:∃g7,g7=W3.heap.size:=⟨_,rfl⟩;rw[←hW4]at HJ4 HZ4 ⊢;rw[←hg7]at HZ4 HL ⊢;clear hW4 hg7;refine wO 6 rfl rfl (fun K hK=>?_)
            go_simp
            refine(zFm 1 1 0 0 0 0 0 0 1000 1000 0 0 1 0 0 0 0 0 1 1 1 1 (-1) 0 0 0 0 0 1000 1000 _ (by decide +kernel) (by decide +kernel) (by decide +kernel)).mono ?_;rintro e W5 ⟨rfl,hb⟩;have HJ5:=zAb ((un HJ4).later hb);have HZ5:=zAb ((un HZ4).later hb);clear hb;refine hK _ _ ⟨un HSS _ (un HJ5),trivial⟩ ?_;clear hK K;refine wO 8 rfl rfl (fun K hK=>?_)
            go_simp
            refine(zFm 1 1 (-1) 0 0 0 0 0 1000 1000 0 0 1 0 0 0 0 0 1 1 1 1 (-2) 0 0 0 0 0 1000 1000 _ (by decide +kernel) (by decide +kernel) (by decide +kernel)).mono ?_;rintro e W6 ⟨rfl,hb⟩;have HJ6:=zAb ((un HJ5).later hb);have HZ6:=zAb ((un HZ5).later hb);clear hb;refine hK _ _ ⟨un HSS _ (un HJ6),trivial⟩ ?_;clear hK K;refine wL 10 rfl rfl (fun K hK=>?_);refine wp_store_row 235 (.tmp 7) (.tmp 16) rfl g7 (J 1 1 (-2) 0 0 0 0 0 1000 1000) rfl rfl 235 _ (un HZ6) (by rw[zCv];rfl) rfl (by kernel_rfl) (hK _ _ trivial ?_);clear hK K;refine wDn ?_;have HN:=zAb ((un HZ6).setRow (J 1 1 (-2) 0 0 0 0 0 1000 1000));have HJN:Hid (JS w (W6.setRow g7 (J 1 1 (-2) 0 0 0 0 0 1000 1000))):=(un HJ6).row (un HL) _;generalize W6.setRow g7 (J 1 1 (-2) 0 0 0 0 0 1000 1000)=U at HN HJN ⊢
            go_wp2_with fail
            go_meet
            exact⟨g7,rfl,un HN,un HJN⟩
        · skip
          go_simp
          have hb:=zBx W2 (.cells (J 0 0 0 0 0 0 0 0 0 0) 235);have HJ3:=zAb ((un HJ2).later hb);refine hK _ _ ⟨un HSS _ (un HJ3),trivial⟩ ?_;clear hK K hb;have HZ3:Hid (zAc (W2.alloc (.cells (J 0 0 0 0 0 0 0 0 0 0) 235)) W2.heap.size 235 (J 0 0 0 0 0 0 0 0 0 0)):=zAc.new _ _ _;have HL:Hid (w.heap.size+3<W2.heap.size):=(un HJ2).r.lt;obtain⟨W3,hW3⟩:∃W3,W3=W2.alloc (.cells (J 0 0 0 0 0 0 0 0 0 0) 235):=⟨_,rfl⟩;obtain⟨g7,hg7⟩:∃g7,g7=W2.heap.size:=⟨_,rfl⟩;rw[←hW3]at HJ3 HZ3 ⊢;rw[←hg7]at HZ3 HL ⊢;clear hW3 hg7;refine wO 4 rfl rfl (fun K hK=>?_)
          go_simp
          refine(zDf 0 1 0 0 0 0 0 0 1000 1000 1 0 0 0 0 0 0 0 1 1 1 1 0 0 0 0 0 0 1000 1000 _ (by decide +kernel) (by decide +kernel) (by decide +kernel)).mono ?_;rintro e W4 ⟨rfl,hb⟩;have HJ4:=zAb ((un HJ3).later hb);have HZ4:=zAb ((un HZ3).later hb);clear hb;refine hK _ _ ⟨un HSS _ (un HJ4),trivial⟩ ?_;clear hK K;refine wO 6 rfl rfl (fun K hK=>?_)
          go_simp
          refine(zFm 1 1 0 0 0 0 0 0 1000 1000 0 0 1 0 0 0 0 0 1 1 1 1 (-1) 0 0 0 0 0 1000 1000 _ (by decide +kernel) (by decide +kernel) (by decide +kernel)).mono ?_;rintro e W5 ⟨rfl,hb⟩;have HJ5:=zAb ((un HJ4).later hb);have HZ5:=zAb ((un HZ4).later hb);clear hb;refine hK _ _ ⟨un HSS _ (un HJ5),trivial⟩ ?_;clear hK K;refine wO 8 rfl rfl (fun K hK=>?_)
          go_simp
          refine(zFm 1 1 (-1) 0 0 0 0 0 1000 1000 0 0 1 0 0 0 0 0 1 1 1 1 (-2) 0 0 0 0 0 1000 1000 _ (by decide +kernel) (by decide +kernel) (by decide +kernel)).mono ?_;rintro e W6 ⟨rfl,hb⟩;have HJ6:=zAb ((un HJ5).later hb);have HZ6:=zAb ((un HZ5).later hb);clear hb;refine hK _ _ ⟨un HSS _ (un HJ6),trivial⟩ ?_;clear hK K;refine wL 10 rfl rfl (fun K hK=>?_);refine wp_store_row 235 (.tmp 7) (.tmp 16) rfl g7 (J 1 1 (-2) 0 0 0 0 0 1000 1000) rfl rfl 235 _ (un HZ6) (by rw[zCv];rfl) rfl (by kernel_rfl) (hK _ _ trivial ?_);clear hK K;refine wDn ?_;have HN:=zAb ((un HZ6).setRow (J 1 1 (-2) 0 0 0 0 0 1000 1000));have HJN:Hid (JS w (W6.setRow g7 (J 1 1 (-2) 0 0 0 0 0 1000 1000))):=(un HJ6).row (un HL) _;generalize W6.setRow g7 (J 1 1 (-2) 0 0 0 0 0 1000 1000)=U at HN HJN ⊢
          go_wp2_with fail
          go_meet
          exact⟨g7,rfl,un HN,un HJN⟩
      · skip
        go_simp
        have hb:=zBx W1 (.cells (J 0 0 0 0 0 0 0 0 0 0) 235);have HJ2:=zAb ((un HJ1).later hb);refine hK _ _ ⟨un HSS _ (un HJ2),trivial⟩ ?_;clear hK K hb;have HZ2:Hid (zAc (W1.alloc (.cells (J 0 0 0 0 0 0 0 0 0 0) 235)) W1.heap.size 235 (J 0 0 0 0 0 0 0 0 0 0)):=zAc.new _ _ _;have HL:Hid (w.heap.size+3<W1.heap.size):=(un HJ1).r.lt;obtain⟨W2,hW2⟩:∃W2,W2=W1.alloc (.cells (J 0 0 0 0 0 0 0 0 0 0) 235):=⟨_,rfl⟩;obtain⟨g7,hg7⟩:∃g7,g7=W1.heap.size:=⟨_,rfl⟩;rw[←hW2]at HJ2 HZ2 ⊢;rw[←hg7]at HZ2 HL ⊢;clear hW2 hg7;refine wO 2 rfl rfl (fun K hK=>?_)
        go_simp
        refine(zDf 0 0 0 0 0 0 0 0 1000 1 0 1 0 0 0 0 0 0 1 1000 0 1 0 0 0 0 0 0 1000 1000 _ (by decide +kernel) (by decide +kernel) (by decide +kernel)).mono ?_;rintro e W3 ⟨rfl,hb⟩;have HJ3:=zAb ((un HJ2).later hb);have HZ3:=zAb ((un HZ2).later hb);clear hb;refine hK _ _ ⟨un HSS _ (un HJ3),trivial⟩ ?_;clear hK K;refine wO 4 rfl rfl (fun K hK=>?_)
        go_simp
        refine(zDf 0 1 0 0 0 0 0 0 1000 1000 1 0 0 0 0 0 0 0 1 1 1 1 0 0 0 0 0 0 1000 1000 _ (by decide +kernel) (by decide +kernel) (by decide +kernel)).mono ?_;rintro e W4 ⟨rfl,hb⟩;have HJ4:=zAb ((un HJ3).later hb);have HZ4:=zAb ((un HZ3).later hb);clear hb;refine hK _ _ ⟨un HSS _ (un HJ4),trivial⟩ ?_;clear hK K;refine wO 6 rfl rfl (fun K hK=>?_)
        go_simp
        refine(zFm 1 1 0 0 0 0 0 0 1000 1000 0 0 1 0 0 0 0 0 1 1 1 1 (-1) 0 0 0 0 0 1000 1000 _ (by decide +kernel) (by decide +kernel) (by decide +kernel)).mono ?_;rintro e W5 ⟨rfl,hb⟩;have HJ5:=zAb ((un HJ4).later hb);have HZ5:=zAb ((un HZ4).later hb);clear hb;refine hK _ _ ⟨un HSS _ (un HJ5),trivial⟩ ?_;clear hK K;refine wO 8 rfl rfl (fun K hK=>?_)
        go_simp
        refine(zFm 1 1 (-1) 0 0 0 0 0 1000 1000 0 0 1 0 0 0 0 0 1 1 1 1 (-2) 0 0 0 0 0 1000 1000 _ (by decide +kernel) (by decide +kernel) (by decide +kernel)).mono ?_;rintro e W6 ⟨rfl,hb⟩;have HJ6:=zAb ((un HJ5).later hb);have HZ6:=zAb ((un HZ5).later hb);clear hb;refine hK _ _ ⟨un HSS _ (un HJ6),trivial⟩ ?_;clear hK K;refine wL 10 rfl rfl (fun K hK=>?_);refine wp_store_row 235 (.tmp 7) (.tmp 16) rfl g7 (J 1 1 (-2) 0 0 0 0 0 1000 1000) rfl rfl 235 _ (un HZ6) (by rw[zCv];rfl) rfl (by kernel_rfl) (hK _ _ trivial ?_);clear hK K;refine wDn ?_;have HN:=zAb ((un HZ6).setRow (J 1 1 (-2) 0 0 0 0 0 1000 1000));have HJN:Hid (JS w (W6.setRow g7 (J 1 1 (-2) 0 0 0 0 0 1000 1000))):=(un HJ6).row (un HL) _;generalize W6.setRow g7 (J 1 1 (-2) 0 0 0 0 0 1000 1000)=U at HN HJN ⊢
        go_wp2_with fail
        go_meet
        exact⟨g7,rfl,un HN,un HJN⟩
    · skip
      go_simp
      have hb:=zBx W0 (.cells (J 0 0 0 0 0 0 0 0 0 0) 235);have HJ1:=zAb ((un HJ0).later hb);refine hK _ _ ⟨un HSS _ (un HJ1),trivial⟩ ?_;clear hK K hb;have HZ1:Hid (zAc (W0.alloc (.cells (J 0 0 0 0 0 0 0 0 0 0) 235)) W0.heap.size 235 (J 0 0 0 0 0 0 0 0 0 0)):=zAc.new _ _ _;have HL:Hid (w.heap.size+3<W0.heap.size):=(un HJ0).r.lt;obtain⟨W1,hW1⟩:∃W1,W1=W0.alloc (.cells (J 0 0 0 0 0 0 0 0 0 0) 235):=⟨_,rfl⟩;obtain⟨g7,hg7⟩:∃g7,g7=W0.heap.size:=⟨_,rfl⟩;rw[←hW1]at HJ1 HZ1 ⊢;rw[←hg7]at HZ1 HL ⊢;clear hW1 hg7;refine wO 0 rfl rfl (fun K hK=>?_)
      go_simp
      refine(zEv 1000 _).mono ?_;rintro e W2 ⟨rfl,hb⟩;have HJ2:=zAb ((un HJ1).later hb);have HZ2:=zAb ((un HZ1).later hb);clear hb;refine hK _ _ ⟨un HSS _ (un HJ2),trivial⟩ ?_;clear hK K;refine wO 2 rfl rfl (fun K hK=>?_)
      go_simp
      refine(zDf 0 0 0 0 0 0 0 0 1000 1 0 1 0 0 0 0 0 0 1 1000 0 1 0 0 0 0 0 0 1000 1000 _ (by decide +kernel) (by decide +kernel) (by decide +kernel)).mono ?_;rintro e W3 ⟨rfl,hb⟩;have HJ3:=zAb ((un HJ2).later hb);have HZ3:=zAb ((un HZ2).later hb);clear hb;refine hK _ _ ⟨un HSS _ (un HJ3),trivial⟩ ?_;clear hK K;refine wO 4 rfl rfl (fun K hK=>?_)
      go_simp
      refine(zDf 0 1 0 0 0 0 0 0 1000 1000 1 0 0 0 0 0 0 0 1 1 1 1 0 0 0 0 0 0 1000 1000 _ (by decide +kernel) (by decide +kernel) (by decide +kernel)).mono ?_;rintro e W4 ⟨rfl,hb⟩;have HJ4:=zAb ((un HJ3).later hb);have HZ4:=zAb ((un HZ3).later hb);clear hb;refine hK _ _ ⟨un HSS _ (un HJ4),trivial⟩ ?_;clear hK K;refine wO 6 rfl rfl (fun K hK=>?_)
      go_simp
      refine(zFm 1 1 0 0 0 0 0 0 1000 1000 0 0 1 0 0 0 0 0 1 1 1 1 (-1) 0 0 0 0 0 1000 1000 _ (by decide +kernel) (by decide +kernel) (by decide +kernel)).mono ?_;rintro e W5 ⟨rfl,hb⟩;have HJ5:=zAb ((un HJ4).later hb);have HZ5:=zAb ((un HZ4).later hb);clear hb;refine hK _ _ ⟨un HSS _ (un HJ5),trivial⟩ ?_;clear hK K;refine wO 8 rfl rfl (fun K hK=>?_)
      go_simp
      refine(zFm 1 1 (-1) 0 0 0 0 0 1000 1000 0 0 1 0 0 0 0 0 1 1 1 1 (-2) 0 0 0 0 0 1000 1000 _ (by decide +kernel) (by decide +kernel) (by decide +kernel)).mono ?_;rintro e W6 ⟨rfl,hb⟩;have HJ6:=zAb ((un HJ5).later hb);have HZ6:=zAb ((un HZ5).later hb);clear hb;refine hK _ _ ⟨un HSS _ (un HJ6),trivial⟩ ?_;clear hK K;refine wL 10 rfl rfl (fun K hK=>?_);refine wp_store_row 235 (.tmp 7) (.tmp 16) rfl g7 (J 1 1 (-2) 0 0 0 0 0 1000 1000) rfl rfl 235 _ (un HZ6) (by rw[zCv];rfl) rfl (by kernel_rfl) (hK _ _ trivial ?_);clear hK K;refine wDn ?_;have HN:=zAb ((un HZ6).setRow (J 1 1 (-2) 0 0 0 0 0 1000 1000));have HJN:Hid (JS w (W6.setRow g7 (J 1 1 (-2) 0 0 0 0 0 1000 1000))):=(un HJ6).row (un HL) _;generalize W6.setRow g7 (J 1 1 (-2) 0 0 0 0 0 1000 1000)=U at HN HJN ⊢
      go_wp2_with fail
      go_meet
      exact⟨g7,rfl,un HN,un HJN⟩
  case rest=>
    obtain⟨g7,rfl,HN,HJ1⟩:=hcut;generalize wc=U at HN HJ1 ⊢
    clear HJ HSS;have m0:U.cell? ⟨w.heap.size,0,none⟩=some (I 1):=(un HJ1).m.ub.c 0 _ rfl;have m1:U.cell? ⟨w.heap.size,1,none⟩=some (I 0):=(un HJ1).m.ub.c 1 _ rfl;have m2:U.cell? ⟨w.heap.size,2,none⟩=some (I 0):=(un HJ1).m.ub.c 2 _ rfl;have m3:U.cell? ⟨w.heap.size,3,none⟩=some (I 0):=(un HJ1).m.ub.c 3 _ rfl;have m4:U.cell? ⟨w.heap.size,4,none⟩=some (I 0):=(un HJ1).m.ub.c 4 _ rfl;have m5:U.cell? ⟨w.heap.size,5,none⟩=some (I 0):=(un HJ1).m.ub.c 5 _ rfl;have m6:U.cell? ⟨w.heap.size,6,none⟩=some (I 0):=(un HJ1).m.ub.c 6 _ rfl;have m7:U.cell? ⟨w.heap.size,7,none⟩=some (I 0):=(un HJ1).m.ub.c 7 _ rfl;have m8:U.cell? ⟨w.heap.size,8,none⟩=some (I 1):=(un HJ1).m.ub.c 8 _ rfl;have m9:U.cell? ⟨w.heap.size,9,none⟩=some (I 1):=(un HJ1).m.ub.c 9 _ rfl;have n0:U.cell? ⟨g7,0,none⟩=some (I 1):=(un HN).ub.c 0 _ rfl;have n1:U.cell? ⟨g7,1,none⟩=some (I 1):=(un HN).ub.c 1 _ rfl;have n2:U.cell? ⟨g7,2,none⟩=some (I (-2)):=(un HN).ub.c 2 _ rfl;have n3:U.cell? ⟨g7,3,none⟩=some (I 0):=(un HN).ub.c 3 _ rfl;have n4:U.cell? ⟨g7,4,none⟩=some (I 0):=(un HN).ub.c 4 _ rfl;have n5:U.cell? ⟨g7,5,none⟩=some (I 0):=(un HN).ub.c 5 _ rfl;have n6:U.cell? ⟨g7,6,none⟩=some (I 0):=(un HN).ub.c 6 _ rfl;have n7:U.cell? ⟨g7,7,none⟩=some (I 0):=(un HN).ub.c 7 _ rfl;have n8:U.cell? ⟨g7,8,none⟩=some (I 1000):=(un HN).ub.c 8 _ rfl;have n9:U.cell? ⟨g7,9,none⟩=some (I 1000):=(un HN).ub.c 9 _ rfl
    go_wp2_with fail
    refine(zDf 1 1 (-2) 0 0 0 0 0 1000 1000 1 0 0 0 0 0 0 0 1 1 2 1 (-2) 0 0 0 0 0 1000 1000 _ (by decide +kernel) (by decide +kernel) (by decide +kernel)).mono ?_;rintro e W ⟨rfl,hb⟩;have HJ2:=zAb ((un HJ1).later hb);clear hb HJ1
    go_wp2_with (refine zAn 235 10 zCv rfl (.tmp 6) (.tmp 19) rfl (w.heap.size+3) (J 0 0 0 0 0 0 0 0 0 0) (J 2 1 (-2) 0 0 0 0 0 1000 1000) rfl rfl rfl rfl (un HJ2).r (by kernel_rfl) ?_)
    exact bodyPost_ret (v:=.agg (J 2 1 (-2) 0 0 0 0 0 1000 1000)) (res43 Tryz.results264 _ _ (w.heap.size+3) _ rfl rfl ((un HJ2).r.setRow _)) rfl ⟨rfl,below_setRow (un HJ2).below (by omega) _⟩
end Go.Proofs.YtliadckofhblnaaGreatDoor

/- The rows, as they are made. -/
import Derived.Test.YtliadckofhblnaaGreatDoorLimb3
import Derived.Test.YtliadckofhblnaaGreatDoorOfTwo
import Derived.Deep.Cut
import Derived.Test.YtliadckofhblnaaGreatDoorOfs
import Derived.Test.YtliadckofhblnaaGreatDoorFactor
import Derived.Test.YtliadckofhblnaaGreatDoorCopy
import Derived.Deep.RegionHeld3
import Derived.Deep.Quiet
set_option maxHeartbeats 4000000
set_option maxRecDepth 100000
namespace Go.Proofs.YtliadckofhblnaaGreatDoor.Pf
open Go.RowKit
def Made (f:Nat) (a b:Int):Prop:=∀W,Calls Tryz.prog f #[] W fun r w'=>r=.returned (.agg #[I a,I b])∧Bw W w'
theorem ptimes_any (a b c d:Int) (w:World) (h1:-1000≤b) (h2:b≤1000) (h3:-1000≤d) (h4:d≤1000) :
  Calls Tryz.prog 368 #[.agg #[I a,I b],.agg #[I c,I d]] w fun r w'=>r=.returned (.agg #[I a,I (b+d)])∧Bw w w':=by
 go_enter Tryz.func368,Tryz.ntmps368
 go_wp2
 exact bodyPost_ret (v:=.agg #[I a,I (b+d)]) (by simp[results,Tryz.results368,go_sem]) rfl ⟨rfl,(bA.alloc (by simp) _).alloc (by simp;omega) _⟩
theorem deca_made:Made 326 10 1:=by
 intro w;go_enter Tryz.func326,Tryz.ntmps326
 go_wp2
 exact bodyPost_ret (v:=.agg #[I 10,I 1]) (by simp[results,Tryz.results326,go_sem]) rfl ⟨rfl,bA⟩
theorem hecto_made:Made 327 10 2:=by
 intro w;have H1:=zAb deca_made;have H2:=zAb deca_made;unfold Made at H1 H2
 have HT:Hid (∀W,Calls Tryz.prog 368 #[.agg #[I 10,I 1],.agg #[I 10,I 1]] W fun r w'=>r=.returned (.agg #[I 10,I 2])∧Bw W w'):=fun W=>ptimes_any 10 1 10 1 W (by decide) (by decide) (by decide) (by decide)
 obtain⟨V,hV⟩:∃V,V=w.alloc (.cells #[I 0,I 0] 357):=⟨_,rfl⟩;have HS:Hid (T2 V w.heap.size (I 0) (I 0)∧Bw w V):=by rw[hV];exact⟨⟨by simp[go_sem],by simp[go_sem],by simp[go_sem],by simp[go_sem]⟩,bA⟩
 have HV:=zAb hV;go_enter Tryz.func327,Tryz.ntmps327
 go_upto_region 1 with fail
 rw[←un HV];clear hV HV
 go_wp2_with (first
  | (go_at_call 326;go_must(refine(un H1 _).mono ?_;rintro e wn ⟨rfl,hb⟩;replace HS:=zAb (And.intro ((un HS).1.later hb) ((un HS).2.trans (hb.mono (un HS).2.size)));clear hb))
  | (go_at_call 368;go_must(refine(un HT _).mono ?_;rintro e wl ⟨rfl,hb⟩;have HL:Hid (T2 wl w.heap.size (I 0) (I 0)∧Bw w wl):=⟨(un HS).1.later hb,(un HS).2.trans (hb.mono (un HS).2.size)⟩;clear hb;have r0:=(un HL).1.c0;have r1:=(un HL).1.c1;have rf0:=(un HL).1.f0;have rf1:=(un HL).1.f1)))
 have hS:=(un HL).1.store (I 10) (I 2);have hb:=zAk (un HL).2 (Nat.le_refl _) (I 10) (I 2);have v0:=hS.c0;have v1:=hS.c1;exact bodyPost_ret (v:=.agg #[I 10,I 2]) (w:=zBh wl w.heap.size (I 10) (I 2)) (by simp[results,Tryz.results327,go_sem,v0,v1]) rfl ⟨rfl,hb⟩
theorem kilo_made:Made 328 10 3:=by
 intro w;have H1:=zAb hecto_made;have H2:=zAb deca_made;unfold Made at H1 H2
 have HT:Hid (∀W,Calls Tryz.prog 368 #[.agg #[I 10,I 2],.agg #[I 10,I 1]] W fun r w'=>r=.returned (.agg #[I 10,I 3])∧Bw W w'):=fun W=>ptimes_any 10 2 10 1 W (by decide) (by decide) (by decide) (by decide)
 obtain⟨V,hV⟩:∃V,V=w.alloc (.cells #[I 0,I 0] 357):=⟨_,rfl⟩;have HS:Hid (T2 V w.heap.size (I 0) (I 0)∧Bw w V):=by rw[hV];exact⟨⟨by simp[go_sem],by simp[go_sem],by simp[go_sem],by simp[go_sem]⟩,bA⟩
 have HV:=zAb hV;go_enter Tryz.func328,Tryz.ntmps328
 go_upto_region 1 with fail
 rw[←un HV];clear hV HV
 go_wp2_with (first
  | (go_at_call 327;go_must(refine(un H1 _).mono ?_;rintro e wn ⟨rfl,hb⟩;replace HS:=zAb (And.intro ((un HS).1.later hb) ((un HS).2.trans (hb.mono (un HS).2.size)));clear hb))
  | (go_at_call 326;go_must(refine(un H2 _).mono ?_;rintro e wn ⟨rfl,hb⟩;replace HS:=zAb (And.intro ((un HS).1.later hb) ((un HS).2.trans (hb.mono (un HS).2.size)));clear hb))
  | (go_at_call 368;go_must(refine(un HT _).mono ?_;rintro e wl ⟨rfl,hb⟩;have HL:Hid (T2 wl w.heap.size (I 0) (I 0)∧Bw w wl):=⟨(un HS).1.later hb,(un HS).2.trans (hb.mono (un HS).2.size)⟩;clear hb;have r0:=(un HL).1.c0;have r1:=(un HL).1.c1;have rf0:=(un HL).1.f0;have rf1:=(un HL).1.f1)))
 have hS:=(un HL).1.store (I 10) (I 3);have hb:=zAk (un HL).2 (Nat.le_refl _) (I 10) (I 3);have v0:=hS.c0;have v1:=hS.c1;exact bodyPost_ret (v:=.agg #[I 10,I 3]) (w:=zBh wl w.heap.size (I 10) (I 3)) (by simp[results,Tryz.results328,go_sem,v0,v1]) rfl ⟨rfl,hb⟩
theorem small_of_err {x:Rat} (h:zHa x=0):Small x:=by
  unfold zHa at h
  by_cases hs:Small x
  · exact hs
  · rw[if_neg hs]at h;cases h
theorem one_lt (E:Nat) (h:E=600):(1:Nat)<10 ^ E:=Nat.one_lt_pow (by omega) (by decide)
theorem texts_low {n d:Nat} {x:Rat} (h:Cub.Low false n d) (e:x=Cub.valQ false n d) (hn:n<10 ^ 600) (hd:d<10 ^ 600):zEp x=tb n∧zEr x=tb d∧zHa x=0:=by
  subst e;obtain⟨e1,e2,e3⟩:=Cub.low_is h;have hs:Small (Cub.valQ false n d):=⟨by rw[←e2];exact hn,by rw[←e3];exact hd⟩;unfold zEp zEr zHa;rw[if_pos hs,if_pos hs,if_pos hs,←e1,←e2,←e3];exact⟨rfl,rfl,rfl⟩
theorem fac_pos (N k:Nat) (j:Int) (hj:j=(k:Int)) (h:N ^ k<10 ^ 600):zEp (Cub.pw (Cub.valQ false N 1) j)=tb (N ^ k)∧zEr (Cub.pw (Cub.valQ false N 1) j)=tb 1∧zHa (Cub.pw (Cub.valQ false N 1) j)=0:=by
  have hl:Cub.Low false N 1:=⟨by decide,Nat.gcd_one_right _,fun h=>by cases h⟩;obtain⟨h1,h2⟩:=Cub.pow_low hl k;simp only[Bool.false_and,Nat.one_pow]at h1 h2;refine texts_low h1 ?_ h (one_lt 600 rfl);unfold Cub.pw;rw[hj,if_neg (by omega),Int.toNat_natCast,h2]
theorem zCs {U W V:World} {O:Obj} (h:Below U.heap.size U W) (hb:Below (W.alloc O).heap.size (W.alloc O) V):Below U.heap.size U V :=
  (h.alloc h.size O).trans (hb.mono (h.alloc h.size O).size)
theorem zBw {W V:World} {O:Obj} (hb:Below (W.alloc O).drew.heap.size (W.alloc O).drew V):Below W.heap.size W V :=
  have h0:=(Below.refl W.heap.size W).alloc (Nat.le_refl _) O;have h:Below W.heap.size W (W.alloc O).drew:=h0.trans ((Below.refl _ _).drew.mono h0.size)
  h.trans (hb.mono h.size)
theorem zGz (N:Nat) (j:Int) (on od fn fd:ByteArray) (w:World)
    (hof:∀W,Below w.heap.size w W→Calls Tryz.prog 103 #[I (N:Int)] W fun r w'=>r=.returned (.agg #[.string on,.string od])∧Bw W w')
    (hpw:∀W,Below w.heap.size w W→Calls Tryz.prog 176 #[.agg #[.string on,.string od],I j] W fun r w'=>r=.returned (.tuple #[.agg #[.string fn,.string fd],I 0])∧Bw W w') :
    Calls Tryz.prog 358 #[.agg #[I (N:Int),I j]] w fun r w'=>r=.returned (.agg #[.string fn,.string fd])∧Bw w w':=by
  obtain⟨V,hV⟩:∃V,V=(w.alloc (.cells #[I (N:Int),I j] 357)).alloc (.cells #[G #[],G #[]] 28):=⟨_,rfl⟩;have HP:Hid (T2 V w.heap.size (I (N:Int)) (I j)):=by rw[hV];exact⟨by simp[go_sem],by simp[go_sem],by simp[go_sem],by simp[go_sem]⟩
  have HR:Hid (T2 V (w.heap.size+1) (G #[]) (G #[])):=by rw[hV];exact⟨by simp[go_sem],by simp[go_sem],by simp[go_sem],by simp[go_sem]⟩
  have HB:Hid (Bw w V):=by rw[hV];exact bA.alloc (by simp) _
  have HV:=zAb hV;have HOF:=zAb hof;have HPW:=zAb hpw;clear hof hpw;go_enter Tryz.func358,Tryz.ntmps358
  go_upto_region 1 with fail
  rw[←un HV];clear hV HV;have t0:=(un HP).c0;have t1:=(un HP).c1;have HC0:Hid (Bw V V.drew):=(Below.refl _ _).drew;have HUP:Hid (∀W,Below V.heap.size V W→Below w.heap.size w W):=fun W h=>bt HB h
  have HUA:Hid (∀W O,Below V.heap.size V W→Below w.heap.size w (W.alloc O)):=fun W O h=>(un HB).trans ((h.alloc h.size O).mono (un HB).size)
  have HUD:Hid (∀O,Below w.heap.size w (V.alloc O).drew):=fun O=>((un HB).alloc (un HB).size O).drew
  have hv0:=(un HP).lt
  go_region_held3 (fun w'=>w'.cell? ⟨w.heap.size,0,none⟩=some (I (N:Int))∧w'.cell? ⟨w.heap.size,1,none⟩=some (I j)) (first|assumption|(simp[go_sem, *];done)) ((first
    | (go_at_call 103;go_must(refine(un HOF _ (by first|exact un HUP _ (un HC0)|exact un HUA _ _ (un HC0)|exact un HUD _)).mono ?_;rintro e wa ⟨rfl,hb⟩;have HCwa:Hid (Bw V wa):=(by first|exact bt HC0 hb|exact zCs (un HC0) hb|exact zBw hb);(first|(have HZa:=zAb ((un HZ0).later hb);clear u0 u1 uf0 uf1;have u0:=(un HZa).c0;have u1:=(un HZa).c1;have uf0:=(un HZa).f0;have uf1:=(un HZa).f1)|(have HZa:Hid (T2 wa V.heap.size (G #[]) (G #[])):=(by first|exact T2.past hb|exact T2.pastD hb);have u0:=(un HZa).c0;have u1:=(un HZa).c1;have uf0:=(un HZa).f0;have uf1:=(un HZa).f1)|skip);clear hb t0 t1;have t0:=((un HP).later (un HCwa)).c0;have t1:=((un HP).later (un HCwa)).c1;have hvwa:=((un HP).later (un HCwa)).lt))
    | (go_at_call 176;go_must(refine(un HPW _ (by first|exact un HUP _ (un HCwa)|exact un HUA _ _ (un HCwa)|exact un HUD _)).mono ?_;rintro e wb ⟨rfl,hb⟩;have HCwb:Hid (Bw V wb):=(by first|exact bt HCwa hb|exact zCs (un HCwa) hb|exact zBw hb);(first|(have HZb:=zAb ((un HZa).later hb);clear u0 u1 uf0 uf1;have u0:=(un HZb).c0;have u1:=(un HZb).c1;have uf0:=(un HZb).f0;have uf1:=(un HZb).f1)|(have HZb:Hid (T2 wb wa.heap.size (G #[]) (G #[])):=(by first|exact T2.past hb|exact T2.pastD hb);have u0:=(un HZb).c0;have u1:=(un HZb).c1;have uf0:=(un HZb).f0;have uf1:=(un HZb).f1)|skip);clear hb t0 t1;have t0:=((un HP).later (un HCwb)).c0;have t1:=((un HP).later (un HCwb)).c1;have hvwb:=((un HP).later (un HCwb)).lt))))
  all_goals
    first
    | (obtain⟨X,hX⟩:∃X,X=wb.heap.size:=⟨_,rfl⟩
       obtain⟨U,hU⟩:∃U,U=wb.alloc (.cells #[.string fn,.string fd] 28):=⟨_,rfl⟩
       have HF:Hid (T2 U X (.string fn) (.string fd)∧T2 U (w.heap.size+1) (G #[]) (G #[])∧Bw w U):=by
         rw[hU,hX];exact⟨⟨by simp[go_sem],by simp[go_sem],by simp[go_sem],by simp[go_sem]⟩,((un HR).later (un HCwb)).later bA,un HUA _ _ (un HCwb)⟩
       rw[←hU,←hX];clear hU hX)
    | (obtain⟨X,hX⟩:∃X,X=wa.heap.size:=⟨_,rfl⟩
       obtain⟨U,hU⟩:∃U,U=(wb.setCell { block:=wa.heap.size,off:=0 } (.string fn)).setCell { block:=wa.heap.size,off:=1 } (.string fd):=⟨_,rfl⟩
       have HF:Hid (T2 U X (.string fn) (.string fd)∧T2 U (w.heap.size+1) (G #[]) (G #[])∧Bw w U):=by
         rw[hU,hX];have h1:=((un HR).later (un HCwa)).lt;exact⟨(un HZb).store _ _,((un HR).later (un HCwb)).otherP wa.heap.size (by omega) _ _,zAk (un HUP _ (un HCwb)) (by omega) _ _⟩
       rw[←hU,←hX];clear hU hX)
    | (obtain⟨X,hX⟩:∃X,X=V.heap.size:=⟨_,rfl⟩
       obtain⟨U,hU⟩:∃U,U=(wb.setCell { block:=V.heap.size,off:=0 } (.string fn)).setCell { block:=V.heap.size,off:=1 } (.string fd):=⟨_,rfl⟩
       have HF:Hid (T2 U X (.string fn) (.string fd)∧T2 U (w.heap.size+1) (G #[]) (G #[])∧Bw w U):=by
         rw[hU,hX];have h1:=(un HR).lt;exact⟨(un HZb).store _ _,((un HR).later (un HCwb)).otherP V.heap.size (by omega) _ _,zAk (un HUP _ (un HCwb)) (by omega) _ _⟩
       rw[←hU,←hX];clear hU hX)
  all_goals
    have x0:=(un HF).1.c0;have x1:=(un HF).1.c1;have r0:=(un HF).2.1.c0;have r1:=(un HF).2.1.c1;have rf0:=(un HF).2.1.f0;have rf1:=(un HF).2.1.f1
    go_wp2_with fail
    have hS:=(un HF).2.1.store (.string fn) (.string fd);have hb:=zAk (un HF).2.2 (by omega) (.string fn) (.string fd) (g:=w.heap.size+1);have v0:=hS.c0;have v1:=hS.c1;exact bodyPost_ret (v:=.agg #[.string fn,.string fd]) (w:=zBh U (w.heap.size+1) (.string fn) (.string fd)) (by simp[results,Tryz.results358,go_sem,v0,v1]) rfl ⟨rfl,hb⟩
theorem zCa (N:Nat) (j:Int) (fn fd:ByteArray) (w:World) (htab:Tab w) (hN:0<N) (hN2:N<100000) (hj1:-4096≤j) (hj2:j≤4096) (h:zEp (Cub.pw (Cub.valQ false N 1) j)=fn∧zEr (Cub.pw (Cub.valQ false N 1) j)=fd∧zHa (Cub.pw (Cub.valQ false N 1) j)=0) :
    Calls Tryz.prog 358 #[.agg #[I (N:Int),I j]] w fun r w'=>r=.returned (.agg #[.string fn,.string fd])∧Bw w w':=by
  have hs:N<10 ^ 600:=u64_600 N (by omega);have hl:Cub.Low false N 1:=⟨by decide,Nat.gcd_one_right _,fun h=>by cases h⟩;obtain⟨e1,e2,e3⟩:=Cub.low_is hl;have hsm:Small (Cub.valQ false N 1):=⟨by rw[←e2];exact hs,by rw[←e3];exact one_lt 600 rfl⟩
  have hR:IsR (sT false N) ⟨#[49]⟩ (Cub.valQ false N 1):=by
    refine⟨hsm,?_,?_⟩
    · unfold zEp;rw[if_pos hsm,←e1,←e2]
    · unfold zEr;rw[if_pos hsm,←e3];exact(zHk ⟨#[49]⟩ 1 (by decide) (by decide)).1
  have hx0:Cub.valQ false N 1≠0:=fun e=>by
    rw[e]at e2;have:N=0:=e2
    omega
  refine zGz N j (sT false N) ⟨#[49]⟩ fn fd w (fun W hb=>zCg N W (by omega) (htab.later hb)) (fun W hb=>?_);have hp:=rpow_ok (sT false N) ⟨#[49]⟩ (Cub.valQ false N 1) j W hR hj1 hj2 hx0 (small_of_err h.2.2) (htab.later hb);unfold Ans at hp
  rw[h.1,h.2.1,h.2.2]at hp;exact hp
section
variable {P:Program} {ops:Array Oper} {md:Region.Mode} {C:World→Prop}
def waitsB (md:Region.Mode) (o:Oper) (i:Nat):Bool:=o.after.any fun e=>Region.binds md e && e.on == i
theorem waits_spec {o:Oper} {i:Nat} (h:waitsB md o i=true):∃e∈o.after,Region.binds md e=true∧e.on=i:=by
 unfold waitsB at h
 rw[Array.any_eq_true]at h;obtain⟨j,hj,h2⟩:=h;rw[Bool.and_eq_true,beq_iff_eq]at h2;exact⟨_,Array.getElem_mem hj,h2⟩
def wpAnyL (P:Program) (md:Region.Mode) (ops:Array Oper) (C:World→Prop) (Q:Act→Prop) (k:Nat):Nat→Array Bool→Act→Prop
 | 0,listed,a=>Region.ready md ops listed=[k]∧Region.ready md ops (listed.setIfInBounds k true)=[]∧Q a
 | fuel+1,listed,a=>Region.ready md ops listed≠[]∧
  ∀i∈Region.ready md ops listed,qOp P ops C i (wpAnyL P md ops C Q k fuel (listed.setIfInBounds i true)) a
theorem zHb {k:Nat} {Q:Act→Prop} {Q':Exit→Act→World→Prop} (hQ:∀a w,C w→Q a→wpOp P ops Q' k (fun a w=>Q' .normal a w) a w):∀(fuel:Nat) (listed:Array Bool) (a:Act) (w:World),C w→
 wpAnyL P md ops C Q k fuel listed a→wpAny P md ops Q' (fuel+1) listed a w
 | 0,_,_,_,hw,h=>⟨fun h0=>(by rw[h.1]at h0;cases h0),fun i hi=>by
  rw[h.1,List.mem_singleton]at hi;subst hi;exact wpOp_mono (fun a w hq=>⟨h.2.1,hq⟩) (hQ _ _ hw h.2.2)⟩
 | fuel+1,_,_,_,hw,h=>⟨fun h0=>absurd h0 h.1,fun i hi=>wpOp_of_qOp hw (fun a' w' hw'=>zHb hQ fuel _ a' w' hw') (h.2 i hi)⟩
theorem wpAnyL_first {Q:Act→Prop} {i k:Nat} {oi ok:Oper} {v:Value} (hi:ops[i]?=some oi) (hk:ops[k]?=some ok) (hwait:∃e∈ok.after,Region.binds md e=true∧e.on=i)
 (hsel:∀(j:Nat) (o:Oper) cs b,ops[j]?=some o→o.op≠.select cs b) :
 ∀(fuel:Nat) (listed:Array Bool) (a:Act),
  (∀j oj,ops[j]?=some oj→j≠i→listed.getD j true=false→(∀e∈oj.after,Region.binds md e=true→e.on≠i)→oi.apart ops oj=true)→
  i∈Region.ready md ops listed→YieldsIn P ops C oi v a→
  wpAnyL P md ops C Q k fuel (listed.setIfInBounds i true) (a.put oi.dst v)→wpAnyL P md ops C Q k (fuel+1) listed a:=by
 have late:∀(listed:Array Bool),i∈Region.ready md ops listed→k ∉ Region.ready md ops listed:=fun listed hr hkr=>by
  obtain⟨e,he,hb,hon⟩:=hwait;obtain⟨_,o,ho,hall⟩:=mem_ready.1 hkr;rw[hk]at ho;cases ho;have h1:=hall e he hb;have h0:=(mem_ready.1 hr).1;rw[hon]at h1;rcases Nat.lt_or_ge i listed.size with h'|h'
  ·simp[h']at h0 h1;rw[h0]at h1;cases h1
  ·simp[Array.getElem?_eq_none h']at h1
 intro fuel
 induction fuel with
 | zero=>
  intro listed a _ hr hy H;refine⟨fun h=>(by rw[h]at hr;cases hr),fun j hj=>?_⟩
  by_cases hji:j=i
  ·subst hji;exact hy.qOp hi H
  ·have:=ready_mono hj hji
   rw[H.1,List.mem_singleton]at this;subst this;exact absurd hj (late listed hr)
 | succ fuel ih=>
  intro listed a hfree hr hy H;refine⟨fun h=>(by rw[h]at hr;cases hr),fun j hj=>?_⟩
  by_cases hji:j=i
  ·subst hji;exact hy.qOp hi H
  ·have h1:=H.2 j (ready_mono hj hji)
   obtain⟨hjun,oj,hoj,hall⟩:=mem_ready.1 hj
   have hnot:∀e∈oj.after,Region.binds md e=true→e.on≠i:=fun e he hb heq=>by
    have h1:=hall e he hb;have h0:=(mem_ready.1 hr).1;rw[heq]at h1;rcases Nat.lt_or_ge i listed.size with h'|h'
    ·simp[h']at h0 h1;rw[h0]at h1;cases h1
    ·simp[Array.getElem?_eq_none h']at h1
   have h2:=qOp_put hoj (hfree j oj hoj hji hjun hnot) (fun cs b=>hsel i oi cs b hi) (fun cs b=>hsel j oj cs b hoj) hy h1
   have hfree':∀k ok,ops[k]?=some ok→k≠i→(listed.setIfInBounds j true).getD k true=false→
    (∀e∈ok.after,Region.binds md e=true→e.on≠i)→oi.apart ops ok=true:=fun k ok hk hki hun hno=>by
    refine hfree k ok hk hki ?_ hno
    by_cases hjk:j=k
    ·subst hjk;exact hjun
    ·rw[getD_set_ne true hjk]at hun;exact hun
   refine qOp_mono (fun a' h3=>ih (listed.setIfInBounds j true) a' hfree' (ready_mono hr (Ne.symm hji)) h3.1 ?_) h2;rw[Array.setIfInBounds_comm _ _ hji];exact h3.2
def lexLast (md:Region.Mode) (ops:Array Oper) (o:Oper):Nat→Nat→Array Bool→Bool
 | 0,k,listed=>(Region.ready md ops listed == [k]) && (Region.ready md ops (listed.setIfInBounds k true)).isEmpty
 | fuel+1,k,listed=>(Region.ready md ops listed).contains k && Region.free md ops listed k && waitsB md o k && lexLast md ops o fuel (k+1) (listed.setIfInBounds k true)
theorem wpAnyL_lex {Q:Act→Prop} {ok:Oper} (hs:Region.noSelect ops=true):∀(l:List Oper) (k:Nat) (listed:Array Bool) (a:Act),(∀j,j<l.length→l[j]?=ops[k+j]?)→ops[k+l.length]?=some ok→
 lexLast md ops ok l.length k listed=true→wpQuiet P ops C Q l a→wpAnyL P md ops C Q (k+l.length) l.length listed a
 | [],k,_,_,_,_,hB,h=>by
  simp only[List.length_nil,lexLast,Bool.and_eq_true,beq_iff_eq,List.isEmpty_iff]at hB;exact⟨hB.1,hB.2,h⟩
 | o :: l,k,listed,a,hl,hk,hB,h=>by
  have h0:ops[k]?=some o:=by simpa using (hl 0 (by simp)).symm
  simp only[List.length_cons,lexLast,Bool.and_eq_true]at hB;obtain⟨⟨⟨hr,hf⟩,hwt⟩,hB'⟩:=hB;have hst:qOp P ops C k (wpQuiet P ops C Q l) a:=by unfold qOp;simp only[h0];exact h
  obtain⟨v,hy,hK⟩:=yieldsIn_of_qOp h0 hst;have e:k+(o :: l).length=(k+1)+l.length:=by simp only[List.length_cons];omega
  rw[e]at hk ⊢
  exact wpAnyL_first h0 hk (waits_spec hwt) (Region.noSelect_spec hs) l.length listed a (Region.free_spec h0 hf) (by simpa using hr) hy
   (wpAnyL_lex hs l (k+1) _ _ (fun j hj=>by have:=hl (j+1) (by simp only[List.length_cons];omega);simpa [Nat.add_assoc,Nat.add_comm 1 j] using this) hk hB' hK)
def lastB (l:List Oper) (st:Oper):Bool:=Region.noSelect (l ++ [st]).toArray && lexLast .any (l ++ [st]).toArray st l.length 0 (Array.replicate (l ++ [st]).toArray.size false)
theorem quiet_last {id:Nat} {Q:Exit→Act→World→Prop} {a:Act} {w:World} {L l:List Oper} {st:Oper} (hL:L=l ++ [st]) (hm:P.follows .mixedOrders=true) (hB:lastB l st=true)
 (h:wpQuiet P L.toArray (fun w'=>∃x:zBy w,w'=x.world) (fun a'=>∀w',(∃x:zBy w,w'=x.world)→if Region.wanted st (yielded L.toArray a'.tmps)then st.wp P a' w' (fun a w=>Q .normal a w) Q else Q .normal (a'.put st.dst undef) w') l a):(Code.region id L.toArray true).wp P Q a w:=by
 subst hL;simp only[lastB,Bool.and_eq_true]at hB;have hlast:(l ++ [st]).toArray[0+l.length]?=some st:=by simp
 refine wp_region_any hm ?_;have hsz:(l ++ [st]).toArray.size=l.length+1:=by simp
 rw[hsz]at hB ⊢;refine zHb (k:=0+l.length) (C:=fun w'=>∃x:zBy w,w'=x.world) (Q:=fun a'=>∀w',(∃x:zBy w,w'=x.world)→if Region.wanted st (yielded (l ++ [st]).toArray a'.tmps)then st.wp P a' w' (fun a w=>Q .normal a w) Q else Q .normal (a'.put st.dst undef) w') ?_ _ _ _ _ ⟨⟨_,(Below.refl w.heap.size w).drew⟩,rfl⟩ ?_
 ·intro a' w' hw' hq
  have:=hq w' hw';unfold wpOp;rw[hlast]
  dsimp only
  split
  ·rename_i hwt;simp only[hwt,if_true]at this;exact .inl this
  ·rename_i hwt;simp only[hwt]at this;exact this
 ·exact wpAnyL_lex hB.1 l 0 _ a (fun j hj=>by simp[List.getElem?_append_left hj]) hlast hB.2 h
def lastOf (d:Oper):List Oper→Oper
 | []=>d
 | o :: l=>lastOf o l
theorem front_last (d:Oper):∀L:List Oper,L≠[]→L=L.dropLast ++ [lastOf d L]
 | [],h=>absurd rfl h
 | [o],_=>rfl
 | o :: o' :: l,_=>by
  have h:=front_last o (o' :: l) (by simp);rw[List.dropLast_cons_cons,List.cons_append];exact congrArg (o :: ·) h
theorem quiet_end {id:Nat} {Q:Exit→Act→World→Prop} {a:Act} {w:World} {o:Oper} {L:List Oper} (hm:P.follows .mixedOrders=true) (hB:lastB (o :: L).dropLast (lastOf o L)=true)
 (h:wpQuiet P (o :: L).toArray (fun w'=>∃x:zBy w,w'=x.world) (fun a'=>∀w',(∃x:zBy w,w'=x.world)→if Region.wanted (lastOf o L) (yielded (o :: L).toArray a'.tmps)then(lastOf o L).wp P a' w' (fun a w=>Q .normal a w) Q else Q .normal (a'.put (lastOf o L).dst undef) w') (o :: L).dropLast a):(Code.region id (o :: L).toArray true).wp P Q a w :=
 quiet_last (l:=(o :: L).dropLast) (st:=lastOf o L) (front_last o (o :: L) (by simp)) hm hB h
end
structure T5 (W:World) (g:Nat) (a b c d e:Value):Prop where
 c0:W.cell? ⟨g,0,none⟩=some a
 c1:W.cell? ⟨g,1,none⟩=some b
 c2:W.cell? ⟨g,2,none⟩=some c
 c3:W.cell? ⟨g,3,none⟩=some d
 c4:W.cell? ⟨g,4,none⟩=some e
 f0:W.frozen? ⟨g,0,none⟩=false
 f1:W.frozen? ⟨g,1,none⟩=false
 f2:W.frozen? ⟨g,2,none⟩=false
 f3:W.frozen? ⟨g,3,none⟩=false
 f4:W.frozen? ⟨g,4,none⟩=false
theorem T5.lt {W:World} {g:Nat} {a b c d e:Value} (h:T5 W g a b c d e):g<W.heap.size:=World.block_lt_of_cell? _ _ h.c0
theorem T5.later {W V:World} {g:Nat} {a b c d e:Value} (h:T5 W g a b c d e) (hb:Below W.heap.size W V):T5 V g a b c d e :=
 ⟨(hb.cell (p:=⟨g,0,none⟩) h.lt).trans h.c0,(hb.cell (p:=⟨g,1,none⟩) h.lt).trans h.c1,(hb.cell (p:=⟨g,2,none⟩) h.lt).trans h.c2,(hb.cell (p:=⟨g,3,none⟩) h.lt).trans h.c3,(hb.cell (p:=⟨g,4,none⟩) h.lt).trans h.c4,(hb.frozen (p:=⟨g,0,none⟩) h.lt).trans h.f0,(hb.frozen (p:=⟨g,1,none⟩) h.lt).trans h.f1,(hb.frozen (p:=⟨g,2,none⟩) h.lt).trans h.f2,(hb.frozen (p:=⟨g,3,none⟩) h.lt).trans h.f3,(hb.frozen (p:=⟨g,4,none⟩) h.lt).trans h.f4⟩
theorem T5.set0 {W:World} {g:Nat} {a b c d e:Value} (h:T5 W g a b c d e) (u:Value):T5 (W.setCell ⟨g,0,none⟩ u) g u b c d e :=
 ⟨World.cell?_setCell_same _ _ _ h.c0,by rw[World.cell?_setCell_other _ _ _ _ (by simp)];exact h.c1,by rw[World.cell?_setCell_other _ _ _ _ (by simp)];exact h.c2,by rw[World.cell?_setCell_other _ _ _ _ (by simp)];exact h.c3,by rw[World.cell?_setCell_other _ _ _ _ (by simp)];exact h.c4,by rw[World.frozen?_setCell];exact h.f0,by rw[World.frozen?_setCell];exact h.f1,by rw[World.frozen?_setCell];exact h.f2,by rw[World.frozen?_setCell];exact h.f3,by rw[World.frozen?_setCell];exact h.f4⟩
theorem T5.set1 {W:World} {g:Nat} {a b c d e:Value} (h:T5 W g a b c d e) (u:Value):T5 (W.setCell ⟨g,1,none⟩ u) g a u c d e :=
 ⟨by rw[World.cell?_setCell_other _ _ _ _ (by simp)];exact h.c0,World.cell?_setCell_same _ _ _ h.c1,by rw[World.cell?_setCell_other _ _ _ _ (by simp)];exact h.c2,by rw[World.cell?_setCell_other _ _ _ _ (by simp)];exact h.c3,by rw[World.cell?_setCell_other _ _ _ _ (by simp)];exact h.c4,by rw[World.frozen?_setCell];exact h.f0,by rw[World.frozen?_setCell];exact h.f1,by rw[World.frozen?_setCell];exact h.f2,by rw[World.frozen?_setCell];exact h.f3,by rw[World.frozen?_setCell];exact h.f4⟩
theorem T5.set2 {W:World} {g:Nat} {a b c d e:Value} (h:T5 W g a b c d e) (u:Value):T5 (W.setCell ⟨g,2,none⟩ u) g a b u d e :=
 ⟨by rw[World.cell?_setCell_other _ _ _ _ (by simp)];exact h.c0,by rw[World.cell?_setCell_other _ _ _ _ (by simp)];exact h.c1,World.cell?_setCell_same _ _ _ h.c2,by rw[World.cell?_setCell_other _ _ _ _ (by simp)];exact h.c3,by rw[World.cell?_setCell_other _ _ _ _ (by simp)];exact h.c4,by rw[World.frozen?_setCell];exact h.f0,by rw[World.frozen?_setCell];exact h.f1,by rw[World.frozen?_setCell];exact h.f2,by rw[World.frozen?_setCell];exact h.f3,by rw[World.frozen?_setCell];exact h.f4⟩
theorem T5.set3 {W:World} {g:Nat} {a b c d e:Value} (h:T5 W g a b c d e) (u:Value):T5 (W.setCell ⟨g,3,none⟩ u) g a b c u e :=
 ⟨by rw[World.cell?_setCell_other _ _ _ _ (by simp)];exact h.c0,by rw[World.cell?_setCell_other _ _ _ _ (by simp)];exact h.c1,by rw[World.cell?_setCell_other _ _ _ _ (by simp)];exact h.c2,World.cell?_setCell_same _ _ _ h.c3,by rw[World.cell?_setCell_other _ _ _ _ (by simp)];exact h.c4,by rw[World.frozen?_setCell];exact h.f0,by rw[World.frozen?_setCell];exact h.f1,by rw[World.frozen?_setCell];exact h.f2,by rw[World.frozen?_setCell];exact h.f3,by rw[World.frozen?_setCell];exact h.f4⟩
theorem T5.set4 {W:World} {g:Nat} {a b c d e:Value} (h:T5 W g a b c d e) (u:Value):T5 (W.setCell ⟨g,4,none⟩ u) g a b c d u :=
 ⟨by rw[World.cell?_setCell_other _ _ _ _ (by simp)];exact h.c0,by rw[World.cell?_setCell_other _ _ _ _ (by simp)];exact h.c1,by rw[World.cell?_setCell_other _ _ _ _ (by simp)];exact h.c2,by rw[World.cell?_setCell_other _ _ _ _ (by simp)];exact h.c3,World.cell?_setCell_same _ _ _ h.c4,by rw[World.frozen?_setCell];exact h.f0,by rw[World.frozen?_setCell];exact h.f1,by rw[World.frozen?_setCell];exact h.f2,by rw[World.frozen?_setCell];exact h.f3,by rw[World.frozen?_setCell];exact h.f4⟩
def store5 (W:World) (g:Nat) (a b c d e:Value):World:=((((W.setCell ⟨g,0,none⟩ a).setCell ⟨g,1,none⟩ b).setCell ⟨g,2,none⟩ c).setCell ⟨g,3,none⟩ d).setCell ⟨g,4,none⟩ e
theorem T5.store {W:World} {g:Nat} {a b c d e:Value} (h:T5 W g a b c d e) (x y z u v:Value):T5 (store5 W g x y z u v) g x y z u v:=((((h.set0 x).set1 y).set2 z).set3 u).set4 v
theorem below_store5 {B g:Nat} {w W:World} (h:Below B w W) (hg:B≤g) (x y z u v:Value):Below B w (store5 W g x y z u v) :=
 ((((h.setCell (p:=⟨g,0,none⟩) hg x).setCell (p:=⟨g,1,none⟩) hg y).setCell (p:=⟨g,2,none⟩) hg z).setCell (p:=⟨g,3,none⟩) hg u).setCell (p:=⟨g,4,none⟩) hg v
theorem binary_any (N:Nat) (j:Int) (bi:Bool) (w:World) (h:(((N:Nat):Int) == 1024)=bi):Calls Tryz.prog 359 #[.agg #[I (N:Int),I j]] w fun r w'=>r=.returned (.bool bi)∧Bw w w':=by
 go_enter Tryz.func359,Tryz.ntmps359
 go_wp2
 go_ret
 exact⟨by rw[←h];rfl,bA⟩
def RowV (nm sy:ByteArray) (f:Nat):Value:=.agg #[.string nm,.string sy,.func (.func f) #[] #[]]
def Tells (f:Nat) (N:Nat) (j:Int) (bi:Bool):Prop:=∀(nm sy fn fd:ByteArray) (w:World),(∀W,Below w.heap.size w W→Calls Tryz.prog 358 #[.agg #[I (N:Int),I j]] W fun r w'=>r=.returned (.agg #[.string fn,.string fd])∧Bw W w')→
 Calls Tryz.prog 299 #[RowV nm sy f] w fun r w'=>r=.returned (.agg #[.string nm,.string sy,.string fn,.string fd,.bool bi])∧Bw w w'
theorem kilo_told:Tells 328 10 3 false:=by
 intro nm sy fn fd w hf;obtain⟨N,hN⟩:∃N:Nat,N=10:=⟨_,rfl⟩;obtain⟨J,hJ⟩:∃J:Int,J=3:=⟨_,rfl⟩;have HM:Hid (∀W,Calls Tryz.prog 328 #[] W fun r w'=>r=.returned (.agg #[I (N:Int),I J])∧Bw W w'):=fun W=>by rw[hN,hJ];exact kilo_made W
 have HBI:=zAb (fun W=>binary_any N J false W (by rw[hN];rfl));rw[←hN,←hJ]at hf;have HF:=zAb hf;obtain⟨V,hV⟩:∃V,V=(w.alloc (.cells #[.string nm,.string sy,.func (.func 328) #[] #[]] 324)).alloc (.cells #[G #[],G #[],G #[],G #[],.bool false] 291):=⟨_,rfl⟩;have HP:Hid (FBox V w.heap.size (.string nm) (.string sy) (.func (.func 328) #[] #[])):=by rw[hV];exact⟨by simp[go_sem],by simp[go_sem],by simp[go_sem],by simp[go_sem],by simp[go_sem],by simp[go_sem]⟩
 have HR:Hid (T5 V (w.heap.size+1) (G #[]) (G #[]) (G #[]) (G #[]) (.bool false)):=by rw[hV];exact⟨by simp[go_sem],by simp[go_sem],by simp[go_sem],by simp[go_sem],by simp[go_sem],by simp[go_sem],by simp[go_sem],by simp[go_sem],by simp[go_sem],by simp[go_sem]⟩
 have HB:Hid (Bw w V):=by rw[hV];exact bA.alloc (by simp) _
 have HV:=zAb hV;clear hf hN hJ;unfold RowV;go_enter Tryz.func299,Tryz.ntmps299
 go_upto_region 1 with fail
 rw[←un HV];clear hV HV;have t2:=(un HP).c2
 go_upto_region 2 with (go_at_call 328;go_must(refine(un HM _).mono ?_;rintro e w1 ⟨rfl,hb1⟩;have HP1:=zAb ((un HP).later hb1);have HR1:=zAb ((un HR).later hb1);have HB1:=zAb (bt HB hb1);clear hb1 t2))
 obtain⟨V2,hV2⟩:∃V2,V2=w1.alloc (.cells #[I (N:Int),I J] 357):=⟨_,rfl⟩;have hb2:Below w1.heap.size w1 V2:=by rw[hV2];exact bA
 have HP2:=zAb ((un HP1).later hb2);have HR2:=zAb ((un HR1).later hb2);have HB2:=zAb (bt HB1 hb2);have HQ2:Hid (T2 V2 w1.heap.size (I (N:Int)) (I J)):=by rw[hV2];exact⟨by simp[go_sem],by simp[go_sem],by simp[go_sem],by simp[go_sem]⟩
 rw[←hV2];clear hV2 hb2 HP HR HB HP1 HR1 HB1 HM;generalize w1.heap.size=g3 at *
 have q0:∀xz:zBy V2,xz.world.cell? ⟨w.heap.size,0,none⟩=some (.string nm):=fun xz=>((un HP2).later xz.below).c0
 have q1:∀xz:zBy V2,xz.world.cell? ⟨w.heap.size,1,none⟩=some (.string sy):=fun xz=>((un HP2).later xz.below).c1
 have q2:∀xz:zBy V2,xz.world.cell? ⟨g3,0,none⟩=some (I (N:Int)):=fun xz=>((un HQ2).later xz.below).c0
 have q3:∀xz:zBy V2,xz.world.cell? ⟨g3,1,none⟩=some (I J):=fun xz=>((un HQ2).later xz.below).c1
 refine quiet_end (by kernel_rfl) (by kernel_rfl) ?_;simp only[List.dropLast,lastOf]
 repeat (go_big_quiet_step (first
  | (go_at_call 358;rename_i xx;refine(un HF xx.world ((un HB2).trans (xx.below.mono (un HB2).size))).mono ?_;rintro e w9 ⟨rfl,hb9⟩;have hz:=xx.below.trans (hb9.mono xx.below.size);first|exact⟨rfl,⟨w9,hz⟩,rfl⟩|exact⟨rfl,hz⟩|exact⟨rfl,w9,hz,rfl⟩)
  | (go_at_call 359;rename_i xx;refine(un HBI xx.world).mono ?_;rintro e w9 ⟨rfl,hb9⟩;have hz:=xx.below.trans (hb9.mono xx.below.size);first|exact⟨rfl,⟨w9,hz⟩,rfl⟩|exact⟨rfl,hz⟩|exact⟨rfl,w9,hz,rfl⟩)))
 refine wpQuiet_nil ?_;intro _ hw';obtain⟨xz,hw''⟩:=hw';subst hw'';obtain⟨U,hU⟩:∃U,U=xz.world:=⟨_,rfl⟩;have HBU:Hid (Bw w U):=by rw[hU];exact(un HB2).trans (xz.below.mono (un HB2).size)
 have HRU:=zAb ((un HR2).later xz.below);rw[←hU]at HRU ⊢;clear hU q0 q1 q2 q3 HB2 HR2 HP2 HQ2;have r0:=(un HRU).c0;have r1:=(un HRU).c1;have r2:=(un HRU).c2;have r3:=(un HRU).c3;have r4:=(un HRU).c4;have rf0:=(un HRU).f0;have rf1:=(un HRU).f1;have rf2:=(un HRU).f2;have rf3:=(un HRU).f3;have rf4:=(un HRU).f4
 go_simp
 go_wp2_with fail
 have hS:=(un HRU).store (.string nm) (.string sy) (.string fn) (.string fd) (.bool false);have hb:=below_store5 (un HBU) (by omega) (.string nm) (.string sy) (.string fn) (.string fd) (.bool false) (g:=w.heap.size+1);have v0:=hS.c0;have v1:=hS.c1;have v2:=hS.c2;have v3:=hS.c3;have v4:=hS.c4;exact bodyPost_ret (v:=.agg #[.string nm,.string sy,.string fn,.string fd,.bool false]) (w:=store5 U (w.heap.size+1) (.string nm) (.string sy) (.string fn) (.string fd) (.bool false)) (by simp[results,Tryz.results299,go_sem,v0,v1,v2,v3,v4]) rfl ⟨rfl,hb⟩
structure Pre where
 nm:ByteArray
 sy:ByteArray
 f:Nat
 fn:ByteArray
 fd:ByteArray
 bi:Bool
 ex:Int
def tbl:Nat→Pre
 | 0=>⟨⟨#[100,101,99,97]⟩,⟨#[100,97]⟩,326,⟨#[49,48]⟩,⟨#[49]⟩,false,1⟩
 | 1=>⟨⟨#[104,101,99,116,111]⟩,⟨#[104]⟩,327,⟨#[49,48,48]⟩,⟨#[49]⟩,false,2⟩
 | 2=>⟨⟨#[107,105,108,111]⟩,⟨#[107]⟩,328,⟨#[49,48,48,48]⟩,⟨#[49]⟩,false,3⟩
 | 3=>⟨⟨#[109,101,103,97]⟩,⟨#[77]⟩,329,⟨#[49,48,48,48,48,48,48]⟩,⟨#[49]⟩,false,6⟩
 | 4=>⟨⟨#[103,105,103,97]⟩,⟨#[71]⟩,330,⟨#[49,48,48,48,48,48,48,48,48,48]⟩,⟨#[49]⟩,false,9⟩
 | 5=>⟨⟨#[116,101,114,97]⟩,⟨#[84]⟩,331,⟨#[49,48,48,48,48,48,48,48,48,48,48,48,48]⟩,⟨#[49]⟩,false,12⟩
 | 6=>⟨⟨#[112,101,116,97]⟩,⟨#[80]⟩,332,⟨#[49,48,48,48,48,48,48,48,48,48,48,48,48,48,48,48]⟩,⟨#[49]⟩,false,15⟩
 | 7=>⟨⟨#[101,120,97]⟩,⟨#[69]⟩,333,⟨#[49,48,48,48,48,48,48,48,48,48,48,48,48,48,48,48,48,48,48]⟩,⟨#[49]⟩,false,18⟩
 | 8=>⟨⟨#[122,101,116,116,97]⟩,⟨#[90]⟩,334,⟨#[49,48,48,48,48,48,48,48,48,48,48,48,48,48,48,48,48,48,48,48,48,48]⟩,⟨#[49]⟩,false,21⟩
 | 9=>⟨⟨#[121,111,116,116,97]⟩,⟨#[89]⟩,335,⟨#[49,48,48,48,48,48,48,48,48,48,48,48,48,48,48,48,48,48,48,48,48,48,48,48,48]⟩,⟨#[49]⟩,false,24⟩
 | 10=>⟨⟨#[114,111,110,110,97]⟩,⟨#[82]⟩,336,⟨#[49,48,48,48,48,48,48,48,48,48,48,48,48,48,48,48,48,48,48,48,48,48,48,48,48,48,48,48]⟩,⟨#[49]⟩,false,27⟩
 | 11=>⟨⟨#[113,117,101,116,116,97]⟩,⟨#[81]⟩,337,⟨#[49,48,48,48,48,48,48,48,48,48,48,48,48,48,48,48,48,48,48,48,48,48,48,48,48,48,48,48,48,48,48]⟩,⟨#[49]⟩,false,30⟩
 | 12=>⟨⟨#[100,101,99,105]⟩,⟨#[100]⟩,338,⟨#[49]⟩,⟨#[49,48]⟩,false,(-1)⟩
 | 13=>⟨⟨#[99,101,110,116,105]⟩,⟨#[99]⟩,339,⟨#[49]⟩,⟨#[49,48,48]⟩,false,(-2)⟩
 | 14=>⟨⟨#[109,105,108,108,105]⟩,⟨#[109]⟩,340,⟨#[49]⟩,⟨#[49,48,48,48]⟩,false,(-3)⟩
 | 15=>⟨⟨#[109,105,99,114,111]⟩,⟨#[206,188]⟩,341,⟨#[49]⟩,⟨#[49,48,48,48,48,48,48]⟩,false,(-6)⟩
 | 16=>⟨⟨#[110,97,110,111]⟩,⟨#[110]⟩,342,⟨#[49]⟩,⟨#[49,48,48,48,48,48,48,48,48,48]⟩,false,(-9)⟩
 | 17=>⟨⟨#[112,105,99,111]⟩,⟨#[112]⟩,343,⟨#[49]⟩,⟨#[49,48,48,48,48,48,48,48,48,48,48,48,48]⟩,false,(-12)⟩
 | 18=>⟨⟨#[102,101,109,116,111]⟩,⟨#[102]⟩,344,⟨#[49]⟩,⟨#[49,48,48,48,48,48,48,48,48,48,48,48,48,48,48,48]⟩,false,(-15)⟩
 | 19=>⟨⟨#[97,116,116,111]⟩,⟨#[97]⟩,345,⟨#[49]⟩,⟨#[49,48,48,48,48,48,48,48,48,48,48,48,48,48,48,48,48,48,48]⟩,false,(-18)⟩
 | 20=>⟨⟨#[122,101,112,116,111]⟩,⟨#[122]⟩,346,⟨#[49]⟩,⟨#[49,48,48,48,48,48,48,48,48,48,48,48,48,48,48,48,48,48,48,48,48,48]⟩,false,(-21)⟩
 | 21=>⟨⟨#[121,111,99,116,111]⟩,⟨#[121]⟩,347,⟨#[49]⟩,⟨#[49,48,48,48,48,48,48,48,48,48,48,48,48,48,48,48,48,48,48,48,48,48,48,48,48]⟩,false,(-24)⟩
 | 22=>⟨⟨#[114,111,110,116,111]⟩,⟨#[114]⟩,348,⟨#[49]⟩,⟨#[49,48,48,48,48,48,48,48,48,48,48,48,48,48,48,48,48,48,48,48,48,48,48,48,48,48,48,48]⟩,false,(-27)⟩
 | 23=>⟨⟨#[113,117,101,99,116,111]⟩,⟨#[113]⟩,349,⟨#[49]⟩,⟨#[49,48,48,48,48,48,48,48,48,48,48,48,48,48,48,48,48,48,48,48,48,48,48,48,48,48,48,48,48,48,48]⟩,false,(-30)⟩
 | 24=>⟨⟨#[107,105,98,105]⟩,⟨#[75,105]⟩,350,⟨#[49,48,50,52]⟩,⟨#[49]⟩,true,1⟩
 | 25=>⟨⟨#[109,101,98,105]⟩,⟨#[77,105]⟩,351,⟨#[49,48,52,56,53,55,54]⟩,⟨#[49]⟩,true,2⟩
 | 26=>⟨⟨#[103,105,98,105]⟩,⟨#[71,105]⟩,352,⟨#[49,48,55,51,55,52,49,56,50,52]⟩,⟨#[49]⟩,true,3⟩
 | 27=>⟨⟨#[116,101,98,105]⟩,⟨#[84,105]⟩,353,⟨#[49,48,57,57,53,49,49,54,50,55,55,55,54]⟩,⟨#[49]⟩,true,4⟩
 | 28=>⟨⟨#[112,101,98,105]⟩,⟨#[80,105]⟩,354,⟨#[49,49,50,53,56,57,57,57,48,54,56,52,50,54,50,52]⟩,⟨#[49]⟩,true,5⟩
 | 29=>⟨⟨#[101,120,98,105]⟩,⟨#[69,105]⟩,355,⟨#[49,49,53,50,57,50,49,53,48,52,54,48,54,56,52,54,57,55,54]⟩,⟨#[49]⟩,true,6⟩
 | 30=>⟨⟨#[122,101,98,105]⟩,⟨#[90,105]⟩,356,⟨#[49,49,56,48,53,57,49,54,50,48,55,49,55,52,49,49,51,48,51,52,50,52]⟩,⟨#[49]⟩,true,7⟩
 | 31=>⟨⟨#[121,111,98,105]⟩,⟨#[89,105]⟩,357,⟨#[49,50,48,56,57,50,53,56,49,57,54,49,52,54,50,57,49,55,52,55,48,54,49,55,54]⟩,⟨#[49]⟩,true,8⟩
 | _=>⟨⟨#[]⟩,⟨#[]⟩,0,⟨#[]⟩,⟨#[]⟩,false,0⟩
def rowV (k:Nat):Value:=RowV (tbl k).nm (tbl k).sy (tbl k).f
def preV (k:Nat):Value:=.agg #[.string (tbl k).nm,.string (tbl k).sy,.string (tbl k).fn,.string (tbl k).fd,.bool (tbl k).bi]
theorem le600 (e:Nat) (h:e=600):10 ^ 40≤10 ^ e:=Nat.pow_le_pow_right (by decide) (by omega)
theorem kilo_row (w:World) (ht:Tab w):Calls Tryz.prog 299 #[rowV 2] w fun r w'=>r=.returned (preV 2)∧Bw w w':=by
 have h:=fac_pos 10 3 3 rfl (Nat.lt_of_lt_of_le (by decide:10 ^ 3<10 ^ 40) (le600 600 rfl));exact kilo_told _ _ ⟨#[49,48,48,48]⟩ ⟨#[49]⟩ w (fun W hb=>zCa 10 3 ⟨#[49,48,48,48]⟩ ⟨#[49]⟩ W (ht.later hb) (by decide) (by decide) (by decide) (by decide) ⟨h.1.trans (by decide +kernel),h.2.1.trans (by decide +kernel),h.2.2⟩)
def zFe:Array Value:=#[G #[100,101,99,97],G #[100,97],.func (.func 326) #[] #[],G #[104,101,99,116,111],G #[104],.func (.func 327) #[] #[],G #[107,105,108,111],G #[107],.func (.func 328) #[] #[],G #[109,101,103,97],G #[77],.func (.func 329) #[] #[],G #[103,105,103,97],G #[71],.func (.func 330) #[] #[],G #[116,101,114,97],G #[84],.func (.func 331) #[] #[],G #[112,101,116,97],G #[80],.func (.func 332) #[] #[],G #[101,120,97],G #[69],.func (.func 333) #[] #[],G #[122,101,116,116,97],G #[90],.func (.func 334) #[] #[],G #[121,111,116,116,97],G #[89],.func (.func 335) #[] #[],G #[114,111,110,110,97],G #[82],.func (.func 336) #[] #[],G #[113,117,101,116,116,97],G #[81],.func (.func 337) #[] #[],G #[100,101,99,105],G #[100],.func (.func 338) #[] #[],G #[99,101,110,116,105],G #[99],.func (.func 339) #[] #[],G #[109,105,108,108,105],G #[109],.func (.func 340) #[] #[],G #[109,105,99,114,111],G #[206,188],.func (.func 341) #[] #[],G #[110,97,110,111],G #[110],.func (.func 342) #[] #[],G #[112,105,99,111],G #[112],.func (.func 343) #[] #[],G #[102,101,109,116,111],G #[102],.func (.func 344) #[] #[],G #[97,116,116,111],G #[97],.func (.func 345) #[] #[],G #[122,101,112,116,111],G #[122],.func (.func 346) #[] #[],G #[121,111,99,116,111],G #[121],.func (.func 347) #[] #[],G #[114,111,110,116,111],G #[114],.func (.func 348) #[] #[],G #[113,117,101,99,116,111],G #[113],.func (.func 349) #[] #[],G #[107,105,98,105],G #[75,105],.func (.func 350) #[] #[],G #[109,101,98,105],G #[77,105],.func (.func 351) #[] #[],G #[103,105,98,105],G #[71,105],.func (.func 352) #[] #[],G #[116,101,98,105],G #[84,105],.func (.func 353) #[] #[],G #[112,101,98,105],G #[80,105],.func (.func 354) #[] #[],G #[101,120,98,105],G #[69,105],.func (.func 355) #[] #[],G #[122,101,98,105],G #[90,105],.func (.func 356) #[] #[],G #[121,111,98,105],G #[89,105],.func (.func 357) #[] #[]]
theorem zEm (w:World):Calls Tryz.prog 297 #[] w fun r w'=>r=.returned (.slice (some ⟨w.heap.size,0,none⟩) 32 32)∧w'=w.alloc (.cells zFe 324):=by
 go_enter Tryz.func297,Tryz.ntmps297
 go_wp2
 go_ret
 exact⟨rfl,rfl⟩
theorem rows_cell:∀k,k<32→zFe[3*k]?=some (.string (tbl k).nm)∧zFe[3*k+1]?=some (.string (tbl k).sy)∧zFe[3*k+2]?=some (.func (.func (tbl k).f) #[] #[])
 | 0,_=>⟨rfl,rfl,rfl⟩
 | 1,_=>⟨rfl,rfl,rfl⟩
 | 2,_=>⟨rfl,rfl,rfl⟩
 | 3,_=>⟨rfl,rfl,rfl⟩
 | 4,_=>⟨rfl,rfl,rfl⟩
 | 5,_=>⟨rfl,rfl,rfl⟩
 | 6,_=>⟨rfl,rfl,rfl⟩
 | 7,_=>⟨rfl,rfl,rfl⟩
 | 8,_=>⟨rfl,rfl,rfl⟩
 | 9,_=>⟨rfl,rfl,rfl⟩
 | 10,_=>⟨rfl,rfl,rfl⟩
 | 11,_=>⟨rfl,rfl,rfl⟩
 | 12,_=>⟨rfl,rfl,rfl⟩
 | 13,_=>⟨rfl,rfl,rfl⟩
 | 14,_=>⟨rfl,rfl,rfl⟩
 | 15,_=>⟨rfl,rfl,rfl⟩
 | 16,_=>⟨rfl,rfl,rfl⟩
 | 17,_=>⟨rfl,rfl,rfl⟩
 | 18,_=>⟨rfl,rfl,rfl⟩
 | 19,_=>⟨rfl,rfl,rfl⟩
 | 20,_=>⟨rfl,rfl,rfl⟩
 | 21,_=>⟨rfl,rfl,rfl⟩
 | 22,_=>⟨rfl,rfl,rfl⟩
 | 23,_=>⟨rfl,rfl,rfl⟩
 | 24,_=>⟨rfl,rfl,rfl⟩
 | 25,_=>⟨rfl,rfl,rfl⟩
 | 26,_=>⟨rfl,rfl,rfl⟩
 | 27,_=>⟨rfl,rfl,rfl⟩
 | 28,_=>⟨rfl,rfl,rfl⟩
 | 29,_=>⟨rfl,rfl,rfl⟩
 | 30,_=>⟨rfl,rfl,rfl⟩
 | 31,_=>⟨rfl,rfl,rfl⟩
 | n+32,h=>absurd h (by omega)
end Go.Proofs.YtliadckofhblnaaGreatDoor.Pf

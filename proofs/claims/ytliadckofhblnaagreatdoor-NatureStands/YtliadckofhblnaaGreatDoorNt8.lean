/- part (203): the coherent base unit of a symbol; slices.Index (49) of texts. -/
import Derived.Test.YtliadckofhblnaaGreatDoorLimb3
import Derived.Test.YtliadckofhblnaaGreatDoorNt5
import Derived.Test.YtliadckofhblnaaGreatDoorFactor
set_option maxHeartbeats 4000000
set_option maxRecDepth 100000
namespace Go.Proofs.YtliadckofhblnaaGreatDoor.Nt
open Go.RowKit
theorem numTold (n d tn:Int) (an ad bn bd qn qd on od pn pd fn fd:ByteArray) (w:World)
    (hoa:∀W,Below w.heap.size w W→Calls Tryz.prog 103 #[I n] W fun r w'=>r=.returned (.agg #[.string an,.string ad])∧Bw W w')
    (hob:∀W,Below w.heap.size w W→Calls Tryz.prog 103 #[I d] W fun r w'=>r=.returned (.agg #[.string bn,.string bd])∧Bw W w')
    (hqu:∀W,Below w.heap.size w W→Calls Tryz.prog 31 #[.agg #[.string an,.string ad],.agg #[.string bn,.string bd]] W fun r w'=>r=.returned (.tuple #[.agg #[.string qn,.string qd],I 0])∧Bw W w')
    (hot:∀W,Below w.heap.size w W→Calls Tryz.prog 103 #[I 10] W fun r w'=>r=.returned (.agg #[.string on,.string od])∧Bw W w')
    (hpo:∀W,Below w.heap.size w W→Calls Tryz.prog 176 #[.agg #[.string on,.string od],I tn] W fun r w'=>r=.returned (.tuple #[.agg #[.string pn,.string pd],I 0])∧Bw W w')
    (hmu:∀W,Below w.heap.size w W→Calls Tryz.prog 28 #[.agg #[.string qn,.string qd],.agg #[.string pn,.string pd]] W fun r w'=>r=.returned (.tuple #[.agg #[.string fn,.string fd],I 0])∧Bw W w') :
    Calls Tryz.prog 140 #[.agg #[I n,I d,I tn]] w fun r w'=>r=.returned (.agg #[.string fn,.string fd])∧Bw w w':=by
  obtain⟨V,hV⟩:∃V,V=(w.alloc (.cells #[I n,I d,I tn] 153)).alloc (.cells #[G #[],G #[]] 28):=⟨_,rfl⟩;have HP:Hid (zAc V w.heap.size 153 #[I n,I d,I tn]):=by rw[hV];exact(zAc.new _ _ _).alloc _
  have HR:Hid (T2 V (w.heap.size+1) (G #[]) (G #[])):=by rw[hV];exact⟨by simp[go_sem],by simp[go_sem],by simp[go_sem],by simp[go_sem]⟩
  have HB:Hid (Bw w V):=by rw[hV];exact bA.alloc (by simp) _
  have HV:=zAb hV;have HOA:=zAb hoa;have HOB:=zAb hob;have HQU:=zAb hqu;have HOT:=zAb hot;have HPO:=zAb hpo;have HMU:=zAb hmu;clear hoa hob hqu hot hpo hmu;go_enter Tryz.func140,Tryz.ntmps140
  go_upto_region 1 with fail
  rw[←un HV];clear hV HV;have t0:V.cell? ⟨w.heap.size,0,none⟩=some (I n):=(un HP).ub.c 0 _ rfl;have t1:V.cell? ⟨w.heap.size,1,none⟩=some (I d):=(un HP).ub.c 1 _ rfl;have HC0:Hid (Bw V V.drew):=(Below.refl _ _).drew;have HUP:Hid (∀W,Below V.heap.size V W→Below w.heap.size w W):=fun W h=>bt HB h
  have HUA:Hid (∀W O,Below V.heap.size V W→Below w.heap.size w (W.alloc O)):=fun W O h=>(un HB).trans ((h.alloc h.size O).mono (un HB).size)
  have HUD:Hid (∀O,Below w.heap.size w (V.alloc O).drew):=fun O=>((un HB).alloc (un HB).size O).drew
  have hv0:=(un HP).lt
  go_region_held3 (fun w'=>w'.cell? ⟨w.heap.size,0,none⟩=some (I n)∧w'.cell? ⟨w.heap.size,1,none⟩=some (I d)) (first|assumption|(simp[go_sem, *];done)) ((first
    | (go_at_call_of 103 n;go_must(refine(un HOA _ (by first|exact un HUP _ (un HC0)|exact un HUA _ _ (un HC0)|exact un HUD _)).mono ?_;rintro e wa ⟨rfl,hb⟩;have HCwa:Hid (Bw V wa):=(by first|exact bt HC0 hb|exact zCs (un HC0) hb|exact zBw hb);(first|(have HZwa:=zAb ((un HZ0).later hb);clear u0 u1 uf0 uf1;have u0:=(un HZwa).c0;have u1:=(un HZwa).c1;have uf0:=(un HZwa).f0;have uf1:=(un HZwa).f1)|(have HZwa:Hid (T2 wa V.heap.size (G #[]) (G #[])):=(by first|exact T2.past hb|exact T2.pastD hb);have u0:=(un HZwa).c0;have u1:=(un HZwa).c1;have uf0:=(un HZwa).f0;have uf1:=(un HZwa).f1)|skip);clear hb t0 t1;have t0:wa.cell? ⟨w.heap.size,0,none⟩=some (I n):=((un HP).later (un HCwa)).ub.c 0 _ rfl;have t1:wa.cell? ⟨w.heap.size,1,none⟩=some (I d):=((un HP).later (un HCwa)).ub.c 1 _ rfl;have hvwa:=((un HP).later (un HCwa)).lt))
    | (go_at_call_of 103 d;go_must(refine(un HOB _ (by first|exact un HUP _ (un HCwa)|exact un HUA _ _ (un HCwa)|exact un HUD _)).mono ?_;rintro e wb ⟨rfl,hb⟩;have HCwb:Hid (Bw V wb):=(by first|exact bt HCwa hb|exact zCs (un HCwa) hb|exact zBw hb);(first|(have HZwb:=zAb ((un HZwa).later hb);clear u0 u1 uf0 uf1;have u0:=(un HZwb).c0;have u1:=(un HZwb).c1;have uf0:=(un HZwb).f0;have uf1:=(un HZwb).f1)|(have HZwb:Hid (T2 wb wa.heap.size (G #[]) (G #[])):=(by first|exact T2.past hb|exact T2.pastD hb);have u0:=(un HZwb).c0;have u1:=(un HZwb).c1;have uf0:=(un HZwb).f0;have uf1:=(un HZwb).f1)|skip);clear hb t0 t1;have t0:wb.cell? ⟨w.heap.size,0,none⟩=some (I n):=((un HP).later (un HCwb)).ub.c 0 _ rfl;have t1:wb.cell? ⟨w.heap.size,1,none⟩=some (I d):=((un HP).later (un HCwb)).ub.c 1 _ rfl;have hvwb:=((un HP).later (un HCwb)).lt))
    | (go_at_call 31;go_must(refine(un HQU _ (by first|exact un HUP _ (un HCwb)|exact un HUA _ _ (un HCwb)|exact un HUD _)).mono ?_;rintro e wc ⟨rfl,hb⟩;have HCwc:Hid (Bw V wc):=(by first|exact bt HCwb hb|exact zCs (un HCwb) hb|exact zBw hb);(first|(have HZwc:=zAb ((un HZwb).later hb);clear u0 u1 uf0 uf1;have u0:=(un HZwc).c0;have u1:=(un HZwc).c1;have uf0:=(un HZwc).f0;have uf1:=(un HZwc).f1)|(have HZwc:Hid (T2 wc wb.heap.size (G #[]) (G #[])):=(by first|exact T2.past hb|exact T2.pastD hb);have u0:=(un HZwc).c0;have u1:=(un HZwc).c1;have uf0:=(un HZwc).f0;have uf1:=(un HZwc).f1)|skip);clear hb t0 t1;have t0:wc.cell? ⟨w.heap.size,0,none⟩=some (I n):=((un HP).later (un HCwc)).ub.c 0 _ rfl;have t1:wc.cell? ⟨w.heap.size,1,none⟩=some (I d):=((un HP).later (un HCwc)).ub.c 1 _ rfl;have hvwc:=((un HP).later (un HCwc)).lt))))
  all_goals
    first
    | (obtain⟨X,hX⟩:∃X,X=wc.heap.size:=⟨_,rfl⟩
       obtain⟨U,hU⟩:∃U,U=wc.alloc (.cells #[.string qn,.string qd] 28):=⟨_,rfl⟩
       have HF:Hid (T2 U X (.string qn) (.string qd)∧T2 U (w.heap.size+1) (G #[]) (G #[])∧Bw w U∧zAc U w.heap.size 153 #[I n,I d,I tn]∧(¬X=w.heap.size∧¬X=w.heap.size+1∧w.heap.size≤X∧X<U.heap.size)):=by
         rw[hU,hX];exact⟨⟨by simp[go_sem],by simp[go_sem],by simp[go_sem],by simp[go_sem]⟩,((un HR).later (un HCwc)).later bA,un HUA _ _ (un HCwc),((un HP).later (un HCwc)).alloc _,(by have h1:=((un HR).later (un HCwc)).lt;refine⟨by omega,by omega,by omega,by simp⟩)⟩
       rw[←hU,←hX];clear hU hX)
    | (obtain⟨X,hX⟩:∃X,X=wb.heap.size:=⟨_,rfl⟩
       obtain⟨U,hU⟩:∃U,U=(wc.setCell { block:=wb.heap.size,off:=0 } (.string qn)).setCell { block:=wb.heap.size,off:=1 } (.string qd):=⟨_,rfl⟩
       have HF:Hid (T2 U X (.string qn) (.string qd)∧T2 U (w.heap.size+1) (G #[]) (G #[])∧Bw w U∧zAc U w.heap.size 153 #[I n,I d,I tn]∧(¬X=w.heap.size∧¬X=w.heap.size+1∧w.heap.size≤X∧X<U.heap.size)):=by
         rw[hU,hX];have h1:=((un HR).later (un HCwb)).lt;exact⟨(un HZwc).store _ _,((un HR).later (un HCwc)).otherP wb.heap.size (by omega) _ _,zAk (un HUP _ (un HCwc)) (by omega) _ _,(((un HP).later (un HCwc)).otherSet (by omega) _ _).otherSet (by omega) _ _,(by have h2:=(un HZwc).lt;refine⟨by omega,by omega,by omega,by simpa [World.setCell] using h2⟩)⟩
       rw[←hU,←hX];clear hU hX)
    | (obtain⟨X,hX⟩:∃X,X=wa.heap.size:=⟨_,rfl⟩
       obtain⟨U,hU⟩:∃U,U=(wc.setCell { block:=wa.heap.size,off:=0 } (.string qn)).setCell { block:=wa.heap.size,off:=1 } (.string qd):=⟨_,rfl⟩
       have HF:Hid (T2 U X (.string qn) (.string qd)∧T2 U (w.heap.size+1) (G #[]) (G #[])∧Bw w U∧zAc U w.heap.size 153 #[I n,I d,I tn]∧(¬X=w.heap.size∧¬X=w.heap.size+1∧w.heap.size≤X∧X<U.heap.size)):=by
         rw[hU,hX];have h1:=((un HR).later (un HCwa)).lt;exact⟨(un HZwc).store _ _,((un HR).later (un HCwc)).otherP wa.heap.size (by omega) _ _,zAk (un HUP _ (un HCwc)) (by omega) _ _,(((un HP).later (un HCwc)).otherSet (by omega) _ _).otherSet (by omega) _ _,(by have h2:=(un HZwc).lt;refine⟨by omega,by omega,by omega,by simpa [World.setCell] using h2⟩)⟩
       rw[←hU,←hX];clear hU hX)
    | (obtain⟨X,hX⟩:∃X,X=V.heap.size:=⟨_,rfl⟩
       obtain⟨U,hU⟩:∃U,U=(wc.setCell { block:=V.heap.size,off:=0 } (.string qn)).setCell { block:=V.heap.size,off:=1 } (.string qd):=⟨_,rfl⟩
       have HF:Hid (T2 U X (.string qn) (.string qd)∧T2 U (w.heap.size+1) (G #[]) (G #[])∧Bw w U∧zAc U w.heap.size 153 #[I n,I d,I tn]∧(¬X=w.heap.size∧¬X=w.heap.size+1∧w.heap.size≤X∧X<U.heap.size)):=by
         rw[hU,hX];have h1:=(un HR).lt;exact⟨(un HZwc).store _ _,((un HR).later (un HCwc)).otherP V.heap.size (by omega) _ _,zAk (un HUP _ (un HCwc)) (by omega) _ _,(((un HP).later (un HCwc)).otherSet (by omega) _ _).otherSet (by omega) _ _,(by have h2:=(un HZwc).lt;refine⟨by omega,by omega,by omega,by simpa [World.setCell] using h2⟩)⟩
       rw[←hU,←hX];clear hU hX)
  all_goals
    obtain⟨hX1,hR1,hB1,hP1,hNX⟩:=un HF;have HXX:=zAb hX1;have HRR:=zAb hR1;have HBB:=zAb hB1;have HPP:=zAb hP1;have HNX:=zAb hNX;clear HF hX1 hR1 hB1 hP1 hNX HP HR HB HUP HUA HUD HC0 hv0 t0 t1
    try clear u0 u1 uf0 uf1
    have t2:U.cell? ⟨w.heap.size,2,none⟩=some (I tn):=(un HPP).ub.c 2 _ rfl;have HD0:Hid (Bw U U.drew):=(Below.refl _ _).drew;have HUP2:Hid (∀W,Below U.heap.size U W→Below w.heap.size w W):=fun W h=>bt HBB h
    have HUA2:Hid (∀W O,Below U.heap.size U W→Below w.heap.size w (W.alloc O)):=fun W O h=>(un HBB).trans ((h.alloc h.size O).mono (un HBB).size)
    have HUD2:Hid (∀O,Below w.heap.size w (U.alloc O).drew):=fun O=>((un HBB).alloc (un HBB).size O).drew
    have hv2:=(un HPP).lt
    go_upto_region 2 with fail
    go_region_held3 (fun w'=>w'.cell? ⟨w.heap.size,2,none⟩=some (I tn)) (first|assumption|(simp[go_sem, *];done)) ((first
      | (go_at_call 103;go_must(refine(un HOT _ (by first|exact un HUP2 _ (un HD0)|exact un HUA2 _ _ (un HD0)|exact un HUD2 _)).mono ?_;rintro e ya ⟨rfl,hb⟩;have HDya:Hid (Bw U ya):=(by first|exact bt HD0 hb|exact zCs (un HD0) hb|exact zBw hb);(first|(have HZya:=zAb ((un HZ0).later hb);clear u0 u1 uf0 uf1;have u0:=(un HZya).c0;have u1:=(un HZya).c1;have uf0:=(un HZya).f0;have uf1:=(un HZya).f1)|(have HZya:Hid (T2 ya U.heap.size (G #[]) (G #[])):=(by first|exact T2.past hb|exact T2.pastD hb);have u0:=(un HZya).c0;have u1:=(un HZya).c1;have uf0:=(un HZya).f0;have uf1:=(un HZya).f1)|skip);clear hb t2;have t2:ya.cell? ⟨w.heap.size,2,none⟩=some (I tn):=((un HPP).later (un HDya)).ub.c 2 _ rfl;have hvya:=((un HPP).later (un HDya)).lt))
      | (go_at_call 176;go_must(refine(un HPO _ (by first|exact un HUP2 _ (un HDya)|exact un HUA2 _ _ (un HDya)|exact un HUD2 _)).mono ?_;rintro e yb ⟨rfl,hb⟩;have HDyb:Hid (Bw U yb):=(by first|exact bt HDya hb|exact zCs (un HDya) hb|exact zBw hb);(first|(have HZyb:=zAb ((un HZya).later hb);clear u0 u1 uf0 uf1;have u0:=(un HZyb).c0;have u1:=(un HZyb).c1;have uf0:=(un HZyb).f0;have uf1:=(un HZyb).f1)|(have HZyb:Hid (T2 yb ya.heap.size (G #[]) (G #[])):=(by first|exact T2.past hb|exact T2.pastD hb);have u0:=(un HZyb).c0;have u1:=(un HZyb).c1;have uf0:=(un HZyb).f0;have uf1:=(un HZyb).f1)|skip);clear hb t2;have t2:yb.cell? ⟨w.heap.size,2,none⟩=some (I tn):=((un HPP).later (un HDyb)).ub.c 2 _ rfl;have hvyb:=((un HPP).later (un HDyb)).lt))))
    all_goals
      first
      | (obtain⟨Y,hY⟩:∃Y,Y=yb.heap.size:=⟨_,rfl⟩
         obtain⟨U2,hU2⟩:∃U2,U2=yb.alloc (.cells #[.string pn,.string pd] 28):=⟨_,rfl⟩
         have HF2:Hid (T2 U2 Y (.string pn) (.string pd)∧T2 U2 X (.string qn) (.string qd)∧T2 U2 (w.heap.size+1) (G #[]) (G #[])∧Bw w U2):=by
           rw[hU2,hY];exact⟨⟨by simp[go_sem],by simp[go_sem],by simp[go_sem],by simp[go_sem]⟩,((un HXX).later (un HDyb)).later bA,((un HRR).later (un HDyb)).later bA,un HUA2 _ _ (un HDyb)⟩
         rw[←hU2,←hY];clear hU2 hY)
      | (obtain⟨Y,hY⟩:∃Y,Y=ya.heap.size:=⟨_,rfl⟩
         obtain⟨U2,hU2⟩:∃U2,U2=(yb.setCell { block:=ya.heap.size,off:=0 } (.string pn)).setCell { block:=ya.heap.size,off:=1 } (.string pd):=⟨_,rfl⟩
         have HF2:Hid (T2 U2 Y (.string pn) (.string pd)∧T2 U2 X (.string qn) (.string qd)∧T2 U2 (w.heap.size+1) (G #[]) (G #[])∧Bw w U2):=by
           rw[hU2,hY];have h1:=((un HXX).later (un HDya)).lt;have h3:=((un HRR).later (un HDya)).lt;exact⟨(un HZyb).store _ _,((un HXX).later (un HDyb)).otherP ya.heap.size (by omega) _ _,((un HRR).later (un HDyb)).otherP ya.heap.size (by omega) _ _,zAk (un HUP2 _ (un HDyb)) (by omega) _ _⟩
         rw[←hU2,←hY];clear hU2 hY)
      | (obtain⟨Y,hY⟩:∃Y,Y=U.heap.size:=⟨_,rfl⟩
         obtain⟨U2,hU2⟩:∃U2,U2=(yb.setCell { block:=U.heap.size,off:=0 } (.string pn)).setCell { block:=U.heap.size,off:=1 } (.string pd):=⟨_,rfl⟩
         have HF2:Hid (T2 U2 Y (.string pn) (.string pd)∧T2 U2 X (.string qn) (.string qd)∧T2 U2 (w.heap.size+1) (G #[]) (G #[])∧Bw w U2):=by
           rw[hU2,hY];have h1:=(un HXX).lt;have h3:=(un HRR).lt;exact⟨(un HZyb).store _ _,((un HXX).later (un HDyb)).otherP U.heap.size (by omega) _ _,((un HRR).later (un HDyb)).otherP U.heap.size (by omega) _ _,zAk (un HUP2 _ (un HDyb)) (by omega) _ _⟩
         rw[←hU2,←hY];clear hU2 hY)
    all_goals
      have y0:=(un HF2).1.c0;have y1:=(un HF2).1.c1;have x0:=(un HF2).2.1.c0;have x1:=(un HF2).2.1.c1
      go_upto_region 4 with (go_at_call 28;go_must(refine(un HMU _ (un HF2).2.2.2).mono ?_;rintro e w5 ⟨rfl,hb⟩;have HR5:=zAb ((un HF2).2.2.1.later hb);have HB5:Hid (Bw w w5):=(un HF2).2.2.2.trans (hb.mono (un HF2).2.2.2.size);clear hb y0 y1 x0 x1))
      obtain⟨V6,hV6⟩:∃V6,V6=w5.alloc (.cells #[.string fn,.string fd] 28):=⟨_,rfl⟩;have hb6:Below w5.heap.size w5 V6:=by rw[hV6];exact bA
      have HY6:Hid (T2 V6 w5.heap.size (.string fn) (.string fd)):=by rw[hV6];exact⟨by simp[go_sem],by simp[go_sem],by simp[go_sem],by simp[go_sem]⟩
      have HR6:=zAb ((un HR5).later hb6);have HB6:Hid (Bw w V6):=bt HB5 hb6;rw[←hV6];clear hV6 hb6 HR5 HB5;generalize w5.heap.size=g7 at *
      have x0:=(un HY6).c0;have x1:=(un HY6).c1;have r0:=(un HR6).c0;have r1:=(un HR6).c1;have rf0:=(un HR6).f0;have rf1:=(un HR6).f1
      go_wp2_with fail
      have hS:=(un HR6).store (.string fn) (.string fd);have hb:=zAk (un HB6) (by omega) (.string fn) (.string fd) (g:=w.heap.size+1);have v0:=hS.c0;have v1:=hS.c1;exact bodyPost_ret (v:=.agg #[.string fn,.string fd]) (w:=zBh V6 (w.heap.size+1) (.string fn) (.string fd)) (by simp[results,Tryz.results140,go_sem,v0,v1]) rfl ⟨rfl,hb⟩
theorem p60 (E:Nat) (h:E=600):10 ^ 60≤10 ^ E:=Nat.pow_le_pow_right (by decide) (by omega)
theorem small60 {x:Rat} (h1:x.num.natAbs<10 ^ 60) (h2:x.den<10 ^ 60):Small x:=⟨Nat.lt_of_lt_of_le h1 (p60 600 rfl),Nat.lt_of_lt_of_le h2 (p60 600 rfl)⟩
theorem zAt (s t:ByteArray) (N D:Nat) (x:Rat) (hN:x.num.natAbs=N:=by decide +kernel) (hD:x.den=D:=by decide +kernel) (hx:decide (x<0)=false:=by decide +kernel) (bN:N<10 ^ 60:=by decide +kernel) (bD:D<10 ^ 60:=by decide +kernel)
  (h1:Cub.rightB s.data.toList=true:=by decide +kernel) (v1:Cub.dval s.data.toList=N:=by decide +kernel) (h2:Cub.rightB t.data.toList=true:=by decide +kernel) (v2:Cub.dval t.data.toList=D:=by decide +kernel):IsR s t x:=by
 have hsm:Small x:=small60 (by rw[hN];exact bN) (by rw[hD];exact bD);refine⟨hsm,?_,?_⟩
 ·unfold zEp;rw[if_pos hsm,hx,hN];unfold sT;rw[if_neg (by decide)];exact(zHk s N h1 v1).1
 ·unfold zEr;rw[if_pos hsm,hD];exact(zHk t D h2 v2).1
theorem isR_ten:IsR (sT false 10) ⟨#[49]⟩ 10:=by
 have h:=zCh 10 (by decide)
 rwa [show Cub.valQ false 10 1=10 from by decide +kernel]at h
theorem zBz (N D:Nat) (tn:Int) (q p f:Rat) (qn qd pn pd fn fd:ByteArray) (w:World) (hN:N<9223372036854775808) (hD:D<9223372036854775808) (hD0:Cub.valQ false D 1≠0) (hq:Cub.valQ false N 1*(Cub.valQ false D 1)⁻¹=q) (hqr:IsR qn qd q)
  (h1:-4096≤tn) (h2:tn≤4096) (hp:Cub.pw 10 tn=p) (hpr:IsR pn pd p) (hf:q*p=f) (hfr:IsR fn fd f) (htab:Tab w) :
  Calls Tryz.prog 140 #[.agg (n3 (N:Int) (D:Int) tn)] w fun r w'=>r=.returned (.agg #[.string fn,.string fd])∧Bw w w' :=
 numTold N D tn (sT false N) ⟨#[49]⟩ (sT false D) ⟨#[49]⟩ qn qd (sT false 10) ⟨#[49]⟩ pn pd fn fd w (fun W hb=>zCg N W hN (htab.later hb)) (fun W hb=>zCg D W hD (htab.later hb))
  (fun W hb=>zFb (zGq (sT false N) ⟨#[49]⟩ (sT false D) ⟨#[49]⟩ _ _ W (zCh N hN) (zCh D hD) hD0 (htab.later hb)) hq hqr) (fun W hb=>zCg 10 W (by decide) (htab.later hb))
  (fun W hb=>zFb (rpow_ok _ _ 10 tn W isR_ten h1 h2 (by decide +kernel) (by rw[hp];exact hpr.1) (htab.later hb)) hp hpr) (fun W hb=>zFb (rmul_ok qn qd pn pd q p W hqr hpr (htab.later hb)) hf hfr)
theorem ten_m42:Cub.pw 10 (-42)=(1 / 1000000000000000000000000000000000000000000):=by decide +kernel
theorem tenR_m42:IsR ⟨#[49]⟩ ⟨#[49,48,48,48,48,48,48,48,48,48,48,48,48,48,48,48,48,48,48,48,48,48,48,48,48,48,48,48,48,48,48,48,48,48,48,48,48,48,48,48,48,48,48]⟩ (1 / 1000000000000000000000000000000000000000000):=(zAt _ _ 1 1000000000000000000000000000000000000000000 (1 / 1000000000000000000000000000000000000000000))
theorem ten_m41:Cub.pw 10 (-41)=(1 / 100000000000000000000000000000000000000000):=by decide +kernel
theorem tenR_m41:IsR ⟨#[49]⟩ ⟨#[49,48,48,48,48,48,48,48,48,48,48,48,48,48,48,48,48,48,48,48,48,48,48,48,48,48,48,48,48,48,48,48,48,48,48,48,48,48,48,48,48,48]⟩ (1 / 100000000000000000000000000000000000000000):=(zAt _ _ 1 100000000000000000000000000000000000000000 (1 / 100000000000000000000000000000000000000000))
theorem ten_m38:Cub.pw 10 (-38)=(1 / 100000000000000000000000000000000000000):=by decide +kernel
theorem tenR_m38:IsR ⟨#[49]⟩ ⟨#[49,48,48,48,48,48,48,48,48,48,48,48,48,48,48,48,48,48,48,48,48,48,48,48,48,48,48,48,48,48,48,48,48,48,48,48,48,48,48]⟩ (1 / 100000000000000000000000000000000000000):=(zAt _ _ 1 100000000000000000000000000000000000000 (1 / 100000000000000000000000000000000000000))
theorem ten_m29:Cub.pw 10 (-29)=(1 / 100000000000000000000000000000):=by decide +kernel
theorem tenR_m29:IsR ⟨#[49]⟩ ⟨#[49,48,48,48,48,48,48,48,48,48,48,48,48,48,48,48,48,48,48,48,48,48,48,48,48,48,48,48,48,48]⟩ (1 / 100000000000000000000000000000):=(zAt _ _ 1 100000000000000000000000000000 (1 / 100000000000000000000000000000))
theorem ten_m28:Cub.pw 10 (-28)=(1 / 10000000000000000000000000000):=by decide +kernel
theorem tenR_m28:IsR ⟨#[49]⟩ ⟨#[49,48,48,48,48,48,48,48,48,48,48,48,48,48,48,48,48,48,48,48,48,48,48,48,48,48,48,48,48]⟩ (1 / 10000000000000000000000000000):=(zAt _ _ 1 10000000000000000000000000000 (1 / 10000000000000000000000000000))
theorem ten_m16:Cub.pw 10 (-16)=(1 / 10000000000000000):=by decide +kernel
theorem tenR_m16:IsR ⟨#[49]⟩ ⟨#[49,48,48,48,48,48,48,48,48,48,48,48,48,48,48,48,48]⟩ (1 / 10000000000000000):=(zAt _ _ 1 10000000000000000 (1 / 10000000000000000))
theorem ten_m14:Cub.pw 10 (-14)=(1 / 100000000000000):=by decide +kernel
theorem tenR_m14:IsR ⟨#[49]⟩ ⟨#[49,48,48,48,48,48,48,48,48,48,48,48,48,48,48]⟩ (1 / 100000000000000):=(zAt _ _ 1 100000000000000 (1 / 100000000000000))
theorem ten_m13:Cub.pw 10 (-13)=(1 / 10000000000000):=by decide +kernel
theorem tenR_m13:IsR ⟨#[49]⟩ ⟨#[49,48,48,48,48,48,48,48,48,48,48,48,48,48]⟩ (1 / 10000000000000):=(zAt _ _ 1 10000000000000 (1 / 10000000000000))
theorem ten_m5:Cub.pw 10 (-5)=(1 / 100000):=by decide +kernel
theorem tenR_m5:IsR ⟨#[49]⟩ ⟨#[49,48,48,48,48,48]⟩ (1 / 100000):=(zAt _ _ 1 100000 (1 / 100000))
theorem ten_0:Cub.pw 10 0=(1):=by decide +kernel
theorem tenR_0:IsR ⟨#[49]⟩ ⟨#[49]⟩ (1):=(zAt _ _ 1 1 (1))
theorem ten_14:Cub.pw 10 14=(100000000000000):=by decide +kernel
theorem tenR_14:IsR ⟨#[49,48,48,48,48,48,48,48,48,48,48,48,48,48,48]⟩ ⟨#[49]⟩ (100000000000000):=(zAt _ _ 100000000000000 1 (100000000000000))
theorem ten_15:Cub.pw 10 15=(1000000000000000):=by decide +kernel
theorem tenR_15:IsR ⟨#[49,48,48,48,48,48,48,48,48,48,48,48,48,48,48,48]⟩ ⟨#[49]⟩ (1000000000000000):=(zAt _ _ 1000000000000000 1 (1000000000000000))
theorem ten_56:Cub.pw 10 56=(100000000000000000000000000000000000000000000000000000000):=by decide +kernel
theorem tenR_56:IsR ⟨#[49,48,48,48,48,48,48,48,48,48,48,48,48,48,48,48,48,48,48,48,48,48,48,48,48,48,48,48,48,48,48,48,48,48,48,48,48,48,48,48,48,48,48,48,48,48,48,48,48,48,48,48,48,48,48,48,48]⟩ ⟨#[49]⟩ (100000000000000000000000000000000000000000000000000000000):=(zAt _ _ 100000000000000000000000000000000000000000000000000000000 1 (100000000000000000000000000000000000000000000000000000000))
theorem v_avogadro (w:World) (htab:Tab w):Calls Tryz.prog 140 #[.agg (n3 602214076 1 15)] w fun r w'=>r=.returned (.agg #[G #[54,48,50,50,49,52,48,55,54,48,48,48,48,48,48,48,48,48,48,48,48,48,48,48],G #[49]])∧Bw w w' :=
 zBz 602214076 1 15 (602214076) (1000000000000000) (602214076000000000000000) _ _ _ _ _ _ w (by decide) (by decide) (by decide +kernel) (by decide +kernel) ((zAt _ _ 602214076 1 (602214076)):IsR ⟨#[54,48,50,50,49,52,48,55,54]⟩ ⟨#[49]⟩ (602214076)) (by decide) (by decide) ten_15 tenR_15 (by decide +kernel) (zAt _ _ 602214076000000000000000 1 (602214076000000000000000)) htab
theorem s_avogadro (w:World) (htab:Tab w):Calls Tryz.prog 140 #[.agg (n3 0 1 0)] w fun r w'=>r=.returned (.agg #[G #[48],G #[49]])∧Bw w w' :=
 zBz 0 1 0 (0) (1) (0) _ _ _ _ _ _ w (by decide) (by decide) (by decide +kernel) (by decide +kernel) ((zAt _ _ 0 1 (0)):IsR ⟨#[48]⟩ ⟨#[49]⟩ (0)) (by decide) (by decide) ten_0 tenR_0 (by decide +kernel) (zAt _ _ 0 1 (0)) htab
theorem v_boltzmann (w:World) (htab:Tab w):Calls Tryz.prog 140 #[.agg (n3 1380649 1 (-29))] w fun r w'=>r=.returned (.agg #[G #[49,51,56,48,54,52,57],G #[49,48,48,48,48,48,48,48,48,48,48,48,48,48,48,48,48,48,48,48,48,48,48,48,48,48,48,48,48,48]])∧Bw w w' :=
 zBz 1380649 1 (-29) (1380649) (1 / 100000000000000000000000000000) (1380649 / 100000000000000000000000000000) _ _ _ _ _ _ w (by decide) (by decide) (by decide +kernel) (by decide +kernel) ((zAt _ _ 1380649 1 (1380649)):IsR ⟨#[49,51,56,48,54,52,57]⟩ ⟨#[49]⟩ (1380649)) (by decide) (by decide) ten_m29 tenR_m29 (by decide +kernel) (zAt _ _ 1380649 100000000000000000000000000000 (1380649 / 100000000000000000000000000000)) htab
theorem s_boltzmann (w:World) (htab:Tab w):Calls Tryz.prog 140 #[.agg (n3 0 1 0)] w fun r w'=>r=.returned (.agg #[G #[48],G #[49]])∧Bw w w' :=
 zBz 0 1 0 (0) (1) (0) _ _ _ _ _ _ w (by decide) (by decide) (by decide +kernel) (by decide +kernel) ((zAt _ _ 0 1 (0)):IsR ⟨#[48]⟩ ⟨#[49]⟩ (0)) (by decide) (by decide) ten_0 tenR_0 (by decide +kernel) (zAt _ _ 0 1 (0)) htab
theorem v_gas (w:World) (htab:Tab w):Calls Tryz.prog 140 #[.agg (n3 831446261815324 1 (-14))] w fun r w'=>r=.returned (.agg #[G #[50,48,55,56,54,49,53,54,53,52,53,51,56,51,49],G #[50,53,48,48,48,48,48,48,48,48,48,48,48,48]])∧Bw w w' :=
 zBz 831446261815324 1 (-14) (831446261815324) (1 / 100000000000000) (207861565453831 / 25000000000000) _ _ _ _ _ _ w (by decide) (by decide) (by decide +kernel) (by decide +kernel) ((zAt _ _ 831446261815324 1 (831446261815324)):IsR ⟨#[56,51,49,52,52,54,50,54,49,56,49,53,51,50,52]⟩ ⟨#[49]⟩ (831446261815324)) (by decide) (by decide) ten_m14 tenR_m14 (by decide +kernel) (zAt _ _ 207861565453831 25000000000000 (207861565453831 / 25000000000000)) htab
theorem s_gas (w:World) (htab:Tab w):Calls Tryz.prog 140 #[.agg (n3 0 1 15)] w fun r w'=>r=.returned (.agg #[G #[48],G #[49]])∧Bw w w' :=
 zBz 0 1 15 (0) (1000000000000000) (0) _ _ _ _ _ _ w (by decide) (by decide) (by decide +kernel) (by decide +kernel) ((zAt _ _ 0 1 (0)):IsR ⟨#[48]⟩ ⟨#[49]⟩ (0)) (by decide) (by decide) ten_15 tenR_15 (by decide +kernel) (zAt _ _ 0 1 (0)) htab
theorem v_charge (w:World) (htab:Tab w):Calls Tryz.prog 140 #[.agg (n3 1602176634 1 (-28))] w fun r w'=>r=.returned (.agg #[G #[56,48,49,48,56,56,51,49,55],G #[53,48,48,48,48,48,48,48,48,48,48,48,48,48,48,48,48,48,48,48,48,48,48,48,48,48,48,48]])∧Bw w w' :=
 zBz 1602176634 1 (-28) (1602176634) (1 / 10000000000000000000000000000) (801088317 / 5000000000000000000000000000) _ _ _ _ _ _ w (by decide) (by decide) (by decide +kernel) (by decide +kernel) ((zAt _ _ 1602176634 1 (1602176634)):IsR ⟨#[49,54,48,50,49,55,54,54,51,52]⟩ ⟨#[49]⟩ (1602176634)) (by decide) (by decide) ten_m28 tenR_m28 (by decide +kernel) (zAt _ _ 801088317 5000000000000000000000000000 (801088317 / 5000000000000000000000000000)) htab
theorem s_charge (w:World) (htab:Tab w):Calls Tryz.prog 140 #[.agg (n3 0 1 0)] w fun r w'=>r=.returned (.agg #[G #[48],G #[49]])∧Bw w w' :=
 zBz 0 1 0 (0) (1) (0) _ _ _ _ _ _ w (by decide) (by decide) (by decide +kernel) (by decide +kernel) ((zAt _ _ 0 1 (0)):IsR ⟨#[48]⟩ ⟨#[49]⟩ (0)) (by decide) (by decide) ten_0 tenR_0 (by decide +kernel) (zAt _ _ 0 1 (0)) htab
theorem v_faraday (w:World) (htab:Tab w):Calls Tryz.prog 140 #[.agg (n3 964853321233100184 1 (-13))] w fun r w'=>r=.returned (.agg #[G #[49,50,48,54,48,54,54,54,53,49,53,52,49,51,55,53,50,51],G #[49,50,53,48,48,48,48,48,48,48,48,48,48]])∧Bw w w' :=
 zBz 964853321233100184 1 (-13) (964853321233100184) (1 / 10000000000000) (120606665154137523 / 1250000000000) _ _ _ _ _ _ w (by decide) (by decide) (by decide +kernel) (by decide +kernel) ((zAt _ _ 964853321233100184 1 (964853321233100184)):IsR ⟨#[57,54,52,56,53,51,51,50,49,50,51,51,49,48,48,49,56,52]⟩ ⟨#[49]⟩ (964853321233100184)) (by decide) (by decide) ten_m13 tenR_m13 (by decide +kernel) (zAt _ _ 120606665154137523 1250000000000 (120606665154137523 / 1250000000000)) htab
theorem s_faraday (w:World) (htab:Tab w):Calls Tryz.prog 140 #[.agg (n3 0 1 15)] w fun r w'=>r=.returned (.agg #[G #[48],G #[49]])∧Bw w w' :=
 zBz 0 1 15 (0) (1000000000000000) (0) _ _ _ _ _ _ w (by decide) (by decide) (by decide +kernel) (by decide +kernel) ((zAt _ _ 0 1 (0)):IsR ⟨#[48]⟩ ⟨#[49]⟩ (0)) (by decide) (by decide) ten_15 tenR_15 (by decide +kernel) (zAt _ _ 0 1 (0)) htab
theorem v_electron (w:World) (htab:Tab w):Calls Tryz.prog 140 #[.agg (n3 91093837015 1 (-41))] w fun r w'=>r=.returned (.agg #[G #[49,56,50,49,56,55,54,55,52,48,51],G #[50,48,48,48,48,48,48,48,48,48,48,48,48,48,48,48,48,48,48,48,48,48,48,48,48,48,48,48,48,48,48,48,48,48,48,48,48,48,48,48,48]])∧Bw w w' :=
 zBz 91093837015 1 (-41) (91093837015) (1 / 100000000000000000000000000000000000000000) (18218767403 / 20000000000000000000000000000000000000000) _ _ _ _ _ _ w (by decide) (by decide) (by decide +kernel) (by decide +kernel) ((zAt _ _ 91093837015 1 (91093837015)):IsR ⟨#[57,49,48,57,51,56,51,55,48,49,53]⟩ ⟨#[49]⟩ (91093837015)) (by decide) (by decide) ten_m41 tenR_m41 (by decide +kernel) (zAt _ _ 18218767403 20000000000000000000000000000000000000000 (18218767403 / 20000000000000000000000000000000000000000)) htab
theorem s_electron (w:World) (htab:Tab w):Calls Tryz.prog 140 #[.agg (n3 28 1 (-41))] w fun r w'=>r=.returned (.agg #[G #[55],G #[50,53,48,48,48,48,48,48,48,48,48,48,48,48,48,48,48,48,48,48,48,48,48,48,48,48,48,48,48,48,48,48,48,48,48,48,48,48,48,48,48]])∧Bw w w' :=
 zBz 28 1 (-41) (28) (1 / 100000000000000000000000000000000000000000) (7 / 25000000000000000000000000000000000000000) _ _ _ _ _ _ w (by decide) (by decide) (by decide +kernel) (by decide +kernel) ((zAt _ _ 28 1 (28)):IsR ⟨#[50,56]⟩ ⟨#[49]⟩ (28)) (by decide) (by decide) ten_m41 tenR_m41 (by decide +kernel) (zAt _ _ 7 25000000000000000000000000000000000000000 (7 / 25000000000000000000000000000000000000000)) htab
theorem v_gravitation (w:World) (htab:Tab w):Calls Tryz.prog 140 #[.agg (n3 667430 1 (-16))] w fun r w'=>r=.returned (.agg #[G #[54,54,55,52,51],G #[49,48,48,48,48,48,48,48,48,48,48,48,48,48,48,48]])∧Bw w w' :=
 zBz 667430 1 (-16) (667430) (1 / 10000000000000000) (66743 / 1000000000000000) _ _ _ _ _ _ w (by decide) (by decide) (by decide +kernel) (by decide +kernel) ((zAt _ _ 667430 1 (667430)):IsR ⟨#[54,54,55,52,51,48]⟩ ⟨#[49]⟩ (667430)) (by decide) (by decide) ten_m16 tenR_m16 (by decide +kernel) (zAt _ _ 66743 1000000000000000 (66743 / 1000000000000000)) htab
theorem s_gravitation (w:World) (htab:Tab w):Calls Tryz.prog 140 #[.agg (n3 15 1 (-16))] w fun r w'=>r=.returned (.agg #[G #[51],G #[50,48,48,48,48,48,48,48,48,48,48,48,48,48,48,48]])∧Bw w w' :=
 zBz 15 1 (-16) (15) (1 / 10000000000000000) (3 / 2000000000000000) _ _ _ _ _ _ w (by decide) (by decide) (by decide +kernel) (by decide +kernel) ((zAt _ _ 15 1 (15)):IsR ⟨#[49,53]⟩ ⟨#[49]⟩ (15)) (by decide) (by decide) ten_m16 tenR_m16 (by decide +kernel) (zAt _ _ 3 2000000000000000 (3 / 2000000000000000)) htab
theorem v_gravity (w:World) (htab:Tab w):Calls Tryz.prog 140 #[.agg (n3 980665 1 (-5))] w fun r w'=>r=.returned (.agg #[G #[49,57,54,49,51,51],G #[50,48,48,48,48]])∧Bw w w' :=
 zBz 980665 1 (-5) (980665) (1 / 100000) (196133 / 20000) _ _ _ _ _ _ w (by decide) (by decide) (by decide +kernel) (by decide +kernel) ((zAt _ _ 980665 1 (980665)):IsR ⟨#[57,56,48,54,54,53]⟩ ⟨#[49]⟩ (980665)) (by decide) (by decide) ten_m5 tenR_m5 (by decide +kernel) (zAt _ _ 196133 20000 (196133 / 20000)) htab
theorem s_gravity (w:World) (htab:Tab w):Calls Tryz.prog 140 #[.agg (n3 0 1 0)] w fun r w'=>r=.returned (.agg #[G #[48],G #[49]])∧Bw w w' :=
 zBz 0 1 0 (0) (1) (0) _ _ _ _ _ _ w (by decide) (by decide) (by decide +kernel) (by decide +kernel) ((zAt _ _ 0 1 (0)):IsR ⟨#[48]⟩ ⟨#[49]⟩ (0)) (by decide) (by decide) ten_0 tenR_0 (by decide +kernel) (zAt _ _ 0 1 (0)) htab
theorem v_light (w:World) (htab:Tab w):Calls Tryz.prog 140 #[.agg (n3 299792458 1 0)] w fun r w'=>r=.returned (.agg #[G #[50,57,57,55,57,50,52,53,56],G #[49]])∧Bw w w' :=
 zBz 299792458 1 0 (299792458) (1) (299792458) _ _ _ _ _ _ w (by decide) (by decide) (by decide +kernel) (by decide +kernel) ((zAt _ _ 299792458 1 (299792458)):IsR ⟨#[50,57,57,55,57,50,52,53,56]⟩ ⟨#[49]⟩ (299792458)) (by decide) (by decide) ten_0 tenR_0 (by decide +kernel) (zAt _ _ 299792458 1 (299792458)) htab
theorem s_light (w:World) (htab:Tab w):Calls Tryz.prog 140 #[.agg (n3 0 1 0)] w fun r w'=>r=.returned (.agg #[G #[48],G #[49]])∧Bw w w' :=
 zBz 0 1 0 (0) (1) (0) _ _ _ _ _ _ w (by decide) (by decide) (by decide +kernel) (by decide +kernel) ((zAt _ _ 0 1 (0)):IsR ⟨#[48]⟩ ⟨#[49]⟩ (0)) (by decide) (by decide) ten_0 tenR_0 (by decide +kernel) (zAt _ _ 0 1 (0)) htab
theorem v_planck (w:World) (htab:Tab w):Calls Tryz.prog 140 #[.agg (n3 662607015 1 (-42))] w fun r w'=>r=.returned (.agg #[G #[49,51,50,53,50,49,52,48,51],G #[50,48,48,48,48,48,48,48,48,48,48,48,48,48,48,48,48,48,48,48,48,48,48,48,48,48,48,48,48,48,48,48,48,48,48,48,48,48,48,48,48,48]])∧Bw w w' :=
 zBz 662607015 1 (-42) (662607015) (1 / 1000000000000000000000000000000000000000000) (132521403 / 200000000000000000000000000000000000000000) _ _ _ _ _ _ w (by decide) (by decide) (by decide +kernel) (by decide +kernel) ((zAt _ _ 662607015 1 (662607015)):IsR ⟨#[54,54,50,54,48,55,48,49,53]⟩ ⟨#[49]⟩ (662607015)) (by decide) (by decide) ten_m42 tenR_m42 (by decide +kernel) (zAt _ _ 132521403 200000000000000000000000000000000000000000 (132521403 / 200000000000000000000000000000000000000000)) htab
theorem s_planck (w:World) (htab:Tab w):Calls Tryz.prog 140 #[.agg (n3 0 1 0)] w fun r w'=>r=.returned (.agg #[G #[48],G #[49]])∧Bw w w' :=
 zBz 0 1 0 (0) (1) (0) _ _ _ _ _ _ w (by decide) (by decide) (by decide +kernel) (by decide +kernel) ((zAt _ _ 0 1 (0)):IsR ⟨#[48]⟩ ⟨#[49]⟩ (0)) (by decide) (by decide) ten_0 tenR_0 (by decide +kernel) (zAt _ _ 0 1 (0)) htab
theorem v_josephson (w:World) (htab:Tab w):Calls Tryz.prog 140 #[.agg (n3 3204353268 662607015 14)] w fun r w'=>r=.returned (.agg #[G #[50,49,51,54,50,51,53,53,49,50,48,48,48,48,48,48,48,48,48,48,48,48,48],G #[52,52,49,55,51,56,48,49]])∧Bw w w' :=
 zBz 3204353268 662607015 14 (1068117756 / 220869005) (100000000000000) (21362355120000000000000 / 44173801) _ _ _ _ _ _ w (by decide) (by decide) (by decide +kernel) (by decide +kernel) ((zAt _ _ 1068117756 220869005 (1068117756 / 220869005)):IsR ⟨#[49,48,54,56,49,49,55,55,53,54]⟩ ⟨#[50,50,48,56,54,57,48,48,53]⟩ (1068117756 / 220869005)) (by decide) (by decide) ten_14 tenR_14 (by decide +kernel) (zAt _ _ 21362355120000000000000 44173801 (21362355120000000000000 / 44173801)) htab
theorem s_josephson (w:World) (htab:Tab w):Calls Tryz.prog 140 #[.agg (n3 0 662607015 14)] w fun r w'=>r=.returned (.agg #[G #[48],G #[49]])∧Bw w w' :=
 zBz 0 662607015 14 (0) (100000000000000) (0) _ _ _ _ _ _ w (by decide) (by decide) (by decide +kernel) (by decide +kernel) ((zAt _ _ 0 1 (0)):IsR ⟨#[48]⟩ ⟨#[49]⟩ (0)) (by decide) (by decide) ten_14 tenR_14 (by decide +kernel) (zAt _ _ 0 1 (0)) htab
theorem v_klitzing (w:World) (htab:Tab w):Calls Tryz.prog 140 #[.agg (n3 662607015 2566969966535569956 14)] w fun r w'=>r=.returned (.agg #[G #[53,53,50,49,55,50,53,49,50,53,48,48,48,48,48,48,48,48,48,48,48,48],G #[50,49,51,57,49,52,49,54,51,56,55,55,57,54,52,49,54,51]])∧Bw w w' :=
 zBz 662607015 2566969966535569956 14 (220869005 / 855656655511856652) (100000000000000) (5521725125000000000000 / 213914163877964163) _ _ _ _ _ _ w (by decide) (by decide) (by decide +kernel) (by decide +kernel) ((zAt _ _ 220869005 855656655511856652 (220869005 / 855656655511856652)):IsR ⟨#[50,50,48,56,54,57,48,48,53]⟩ ⟨#[56,53,53,54,53,54,54,53,53,53,49,49,56,53,54,54,53,50]⟩ (220869005 / 855656655511856652)) (by decide) (by decide) ten_14 tenR_14 (by decide +kernel) (zAt _ _ 5521725125000000000000 213914163877964163 (5521725125000000000000 / 213914163877964163)) htab
theorem s_klitzing (w:World) (htab:Tab w):Calls Tryz.prog 140 #[.agg (n3 0 2566969966535569956 56)] w fun r w'=>r=.returned (.agg #[G #[48],G #[49]])∧Bw w w' :=
 zBz 0 2566969966535569956 56 (0) (100000000000000000000000000000000000000000000000000000000) (0) _ _ _ _ _ _ w (by decide) (by decide) (by decide +kernel) (by decide +kernel) ((zAt _ _ 0 1 (0)):IsR ⟨#[48]⟩ ⟨#[49]⟩ (0)) (by decide) (by decide) ten_56 tenR_56 (by decide +kernel) (zAt _ _ 0 1 (0)) htab
theorem v_proton (w:World) (htab:Tab w):Calls Tryz.prog 140 #[.agg (n3 167262192369 1 (-38))] w fun r w'=>r=.returned (.agg #[G #[49,54,55,50,54,50,49,57,50,51,54,57],G #[49,48,48,48,48,48,48,48,48,48,48,48,48,48,48,48,48,48,48,48,48,48,48,48,48,48,48,48,48,48,48,48,48,48,48,48,48,48,48]])∧Bw w w' :=
 zBz 167262192369 1 (-38) (167262192369) (1 / 100000000000000000000000000000000000000) (167262192369 / 100000000000000000000000000000000000000) _ _ _ _ _ _ w (by decide) (by decide) (by decide +kernel) (by decide +kernel) ((zAt _ _ 167262192369 1 (167262192369)):IsR ⟨#[49,54,55,50,54,50,49,57,50,51,54,57]⟩ ⟨#[49]⟩ (167262192369)) (by decide) (by decide) ten_m38 tenR_m38 (by decide +kernel) (zAt _ _ 167262192369 100000000000000000000000000000000000000 (167262192369 / 100000000000000000000000000000000000000)) htab
theorem s_proton (w:World) (htab:Tab w):Calls Tryz.prog 140 #[.agg (n3 51 1 (-38))] w fun r w'=>r=.returned (.agg #[G #[53,49],G #[49,48,48,48,48,48,48,48,48,48,48,48,48,48,48,48,48,48,48,48,48,48,48,48,48,48,48,48,48,48,48,48,48,48,48,48,48,48,48]])∧Bw w w' :=
 zBz 51 1 (-38) (51) (1 / 100000000000000000000000000000000000000) (51 / 100000000000000000000000000000000000000) _ _ _ _ _ _ w (by decide) (by decide) (by decide +kernel) (by decide +kernel) ((zAt _ _ 51 1 (51)):IsR ⟨#[53,49]⟩ ⟨#[49]⟩ (51)) (by decide) (by decide) ten_m38 tenR_m38 (by decide +kernel) (zAt _ _ 51 100000000000000000000000000000000000000 (51 / 100000000000000000000000000000000000000)) htab
def s6:Nat→ByteArray
 | 0=>⟨#[109]⟩
 | 1=>⟨#[107,103]⟩
 | 2=>⟨#[115]⟩
 | 3=>⟨#[65]⟩
 | 4=>⟨#[75]⟩
 | _=>⟨#[109,111,108]⟩
theorem index6 (j:Nat) (hj:j<6) (g cap:Nat) (w:World) (hr:∀k,k<6→w.cell? ⟨g,k,none⟩=some (.string (s6 k))) (hg:g<w.heap.size) (hne:∀i,i<j→((s6 j).toList == (s6 i).toList)=false) :
  Calls Tryz.prog 49 #[.slice (some ⟨g,0,none⟩) 6 cap,.string (s6 j)] w fun r w'=>r=.returned (I (j:Int))∧Bw w w':=by
 have HR:=zAb hr;have HN:=zAb hne;clear hr hne;obtain⟨sj,hsj⟩:∃sj,sj=s6 j:=⟨_,rfl⟩;have HSJ:=zAb hsj;rw[←hsj]at HN ⊢;clear hsj;go_enter Tryz.func49,Tryz.ntmps49
 go_wp2_with fail
 go_loopw [8] (fun s8 wr=>∃(k:Nat),k≤j∧s8=I (k:Int)∧Hid (Bw w wr)) (fun s8 _=>6 - (intOf s8).toNat)
 case atStart=>exact⟨0,by omega,rfl,Below.refl _ _⟩
 case round=>
  obtain⟨k,hk,rfl,HB⟩:=hrel;have hkI:(k:Int)<6:=by omega
  have hk0:(0:Int)≤(k:Int):=by omega
  have c0:wr.cell? ⟨g,k,none⟩=some (.string (s6 k)):=((un HB).cell (p:=⟨g,k,none⟩) hg).trans (un HR k (by omega))
  by_cases he:k=j
  ·have heq:(sj.toList == (s6 k).toList)=true:=by rw[he,un HSJ];simp
   have HK:=zAb he;generalize s6 k=sk at *
   clear he
   go_wp2_with fail
   go_ret
   exact⟨(by have e:=un HK;rw[e];rfl),un HB⟩
  ·have heq:(sj.toList == (s6 k).toList)=false:=un HN k (by omega)
   generalize s6 k=sk at *
   go_wp2_with fail
   go_roundw
   case rel=>exact⟨k+1,by omega,by go_num,HB⟩
   case measure=>simp[intOf];omega
def syms6:Array Value:=#[G #[109],G #[107,103],G #[115],G #[65],G #[75],G #[109,111,108]]
theorem syms6_at (W:World):∀k,k<6→(W.alloc (.cells syms6 9)).cell? ⟨W.heap.size,k,none⟩=some (.string (s6 k))
 | 0,_=>(zAc.new W syms6 9).ub.c 0 _ rfl
 | 1,_=>(zAc.new W syms6 9).ub.c 1 _ rfl
 | 2,_=>(zAc.new W syms6 9).ub.c 2 _ rfl
 | 3,_=>(zAc.new W syms6 9).ub.c 3 _ rfl
 | 4,_=>(zAc.new W syms6 9).ub.c 4 _ rfl
 | 5,_=>(zAc.new W syms6 9).ub.c 5 _ rfl
 | _+6,h=>absurd h (by omega)
theorem part_of (j:Nat) (hj:j<6) (w:World) (hne:∀i,i<j→((s6 j).toList == (s6 i).toList)=false):Calls Tryz.prog 203 #[.string (s6 j)] w fun r w'=>r=.returned (I (j:Int))∧Bw w w':=by
 have HI:Hid (∀W,W=w.alloc (.cells syms6 9)→Calls Tryz.prog 49 #[.slice (some ⟨w.heap.size,0,none⟩) 6 6,.string (s6 j)] W fun r w'=>r=.returned (I (j:Int))∧Bw W w'):=fun W hW=>by subst hW;exact index6 j hj _ _ _ (syms6_at w) (by simp) hne
 generalize s6 j=sj at *
 go_enter Tryz.func203,Tryz.ntmps203
 go_wp2_with (go_at_call 49;go_must(refine(un HI _ rfl).mono ?_;rintro e w1 ⟨rfl,hb⟩;have HB1:Hid (Bw w w1):=bA.trans (hb.mono bA.size);clear hb))
 go_ret
 exact⟨rfl,un HB1⟩
theorem s6_ne:∀j,j<6→∀i,i<j→((s6 j).toList == (s6 i).toList)=false:=by decide +kernel
theorem part6 (j:Nat) (hj:j<6) (w:World):Calls Tryz.prog 203 #[.string (s6 j)] w fun r w'=>r=.returned (I (j:Int))∧Bw w w':=part_of j hj w (s6_ne j hj)
end Go.Proofs.YtliadckofhblnaaGreatDoor.Nt

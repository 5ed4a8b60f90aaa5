/- rat.Add, Sub, Mul, by ofTwo. -/
import Derived.Test.YtliadckofhblnaaGreatDoorLimb3
import Derived.Test.YtliadckofhblnaaGreatDoorTx
set_option maxHeartbeats 4000000
set_option maxRecDepth 100000
namespace Go.Proofs.YtliadckofhblnaaGreatDoor
open Go.RowKit
structure T2 (W:World) (g:Nat) (x y:Value):Prop where
  c0:W.cell? ⟨g,0,none⟩=some x
  c1:W.cell? ⟨g,1,none⟩=some y
  f0:W.frozen? ⟨g,0,none⟩=false
  f1:W.frozen? ⟨g,1,none⟩=false
theorem T2.lt {W:World} {g:Nat} {x y:Value} (h:T2 W g x y):g<W.heap.size:=World.block_lt_of_cell? _ _ h.c0
theorem T2.later {W V:World} {g:Nat} {x y:Value} (h:T2 W g x y) (hb:Below W.heap.size W V):T2 V g x y :=
  ⟨(hb.cell (p:=⟨g,0,none⟩) h.lt).trans h.c0,(hb.cell (p:=⟨g,1,none⟩) h.lt).trans h.c1,(hb.frozen (p:=⟨g,0,none⟩) h.lt).trans h.f0,(hb.frozen (p:=⟨g,1,none⟩) h.lt).trans h.f1⟩
theorem T2.otherAt {W:World} {g k o:Nat} {x y:Value} (h:T2 W g x y) (hk:g≠k) (u:Value):T2 (W.setCell ⟨k,o,none⟩ u) g x y :=
  ⟨by rw[World.cell?_setCell_other _ _ _ _ (by intro e;exact hk (congrArg Addr.block e).symm)];exact h.c0,by rw[World.cell?_setCell_other _ _ _ _ (by intro e;exact hk (congrArg Addr.block e).symm)];exact h.c1,by rw[World.frozen?_setCell];exact h.f0,by rw[World.frozen?_setCell];exact h.f1⟩
structure RS (w W:World) (x y:Value):Prop where
  a:T2 W w.heap.size x y
  r:FBox W (w.heap.size+1) (.bool false) (.slice none 0 0) (.slice none 0 0)
  below:Below w.heap.size w W
theorem RS.later {w W V:World} {x y:Value} (s:RS w W x y) (hb:Below W.heap.size W V):RS w V x y:=⟨s.a.later hb,s.r.later hb,s.below.trans (hb.mono s.below.size)⟩
theorem RS.first (w:World) (x y:Value):RS w ((w.alloc (.cells #[x,y] 28)).alloc (.cells #[.bool false,.slice none 0 0,.slice none 0 0] 82)) x y :=
  ⟨⟨by simp[go_sem],by simp[go_sem],by simp[go_sem],by simp[go_sem]⟩,⟨by simp[go_sem],by simp[go_sem],by simp[go_sem],by simp[go_sem],by simp[go_sem],by simp[go_sem]⟩,bA.alloc (by simp) _⟩
theorem pow600:10 ^ 600≤1000000000 ^ 67:=pow_nine 600 67 (by decide)
theorem read_ok (num den:ByteArray) (b:Bool) (n d:Nat) (w:World) (hnum:num=sT b n) (hden:den=tb d) (hn:n<10 ^ 600) (hd:d<10 ^ 600) (hb0:b=true→n≠0) (hd0:d≠0) (hg:Nat.gcd n d=1) :
    Calls Tryz.prog 118 #[.agg #[.string num,.string den]] w fun r w'=>∃v,r=.returned (.tuple #[v,.bool true])∧QOf w' v (Cub.valQ b n d) 67∧Bw w w':=by
  obtain⟨V,hV⟩:∃V,V=(w.alloc (.cells #[.string num,.string den] 28)).alloc (.cells #[.bool false,.slice none 0 0,.slice none 0 0] 82):=⟨_,rfl⟩;have HS:Hid (RS w V (.string num) (.string den)):=by rw[hV];exact RS.first _ _ _
  have HV:=zAb hV
  have HC68:Hid (Calls Tryz.prog 185 #[.string num] V fun e w'=>e=.returned (.tuple #[.bool b,.string (tb n)])∧w'=V):=by
    have:=cutSign_any num V;rw[hnum,neg_sT b n hn,dig_sT b n hn]at this;rw[hnum];exact this
  have HR1:Hid (Calls Tryz.prog 186 #[.string (tb n)] V fun e w'=>e=.returned (.bool true)∧w'=V):=by
    have:=right_any (tb n) V (tb_size n hn)
    rwa [(zEk n hn).1]at this
  have HR2:Hid (Calls Tryz.prog 186 #[.string den] V fun e w'=>e=.returned (.bool true)∧w'=V):=by
    have:=right_any (tb d) V (tb_size d hd);rw[(zEk d hd).1]at this;rw[hden];exact this
  have z1:b=true→((tb n).toList == [48])=false:=fun h=>by rw[tb_eq48 n hn,beq_eq_false_iff_ne];exact hb0 h
  have z2:(den.toList == [48])=false:=by rw[hden,tb_eq48 d hd,beq_eq_false_iff_ne];exact hd0
  have HB1:Hid (∀W,Calls Tryz.prog 187 #[.string (tb n)] W fun e w'=>∃v,e=.returned v∧zAf w' v n∧Bw W w'):=fun W=>by
    have:=bigText_any (tb n) W (by have:=(zFd n hn).2;omega) (zFd n hn).1
    rwa [(zEk n hn).2]at this
  have HB2:Hid (∀W,Calls Tryz.prog 187 #[.string den] W fun e w'=>∃v,e=.returned v∧zAf w' v d∧Bw W w'):=fun W=>by
    have:=bigText_any (tb d) W (by have:=(zFd d hd).2;omega) (zFd d hd).1;rw[(zEk d hd).2]at this;rw[hden];exact this
  have p6:=pow600;have HLT:Hid (n<1000000000 ^ 67∧d<1000000000 ^ 67):=⟨Nat.lt_of_lt_of_le hn p6,Nat.lt_of_lt_of_le hd p6⟩;have HG:Hid (∀W x y,zAf W x n→zAf W y d→Calls Tryz.prog 148 #[x,y] W fun e w'=>∃a l c,e=.returned (.agg #[.slice a l c])∧zAf w' (.agg #[.slice a l c]) (Nat.gcd n d)∧Bw W w'):=fun W x y h1 h2=>gcdAns 67 (by decide) W x y n d h1 h2 (un HLT).1 (un HLT).2
  have HLOW:Hid (Cub.Low b n d):=⟨by omega,hg,hb0⟩;rw[hg]at HG;have H1:Hid (∀W x,zAf W x 1→Calls Tryz.prog 188 #[x] W fun e w'=>e=.returned (.bool true)∧Bw W w'):=fun W x h=>zCu x 1 W h
  clear p6 hn hd hb0 hd0 hg hnum hden;generalize tb n=ds at *
  go_enter Tryz.func118,Tryz.ntmps118
  go_upto_region 1 with fail
  rw[←un HV];clear hV HV;have t0:=(un HS).a.c0;have t1:=(un HS).a.c1;have HGOAL:True:=trivial
  cases b with
  | true =>
    have z3:=z1 rfl
    go_upto_region 4 with (first
      | (go_at_call 185;go_must(refine(un HC68).mono ?_;rintro e w1 ⟨rfl,hw1⟩;obtain rfl:V=w1:=hw1.symm))
      | (go_at_call_of 186 (Value.string ds);go_must(refine(un HR1).mono ?_;rintro e w1 ⟨rfl,hw1⟩;obtain rfl:V=w1:=hw1.symm))
      | (go_at_call 186;go_must(refine(un HR2).mono ?_;rintro e w1 ⟨rfl,hw1⟩;obtain rfl:V=w1:=hw1.symm)))
    have HC:Hid (∀U,Below V.heap.size V U→U.cell? ⟨w.heap.size,1,none⟩=some (.string den)∧w.heap.size<U.heap.size∧w.heap.size+1<U.heap.size):=fun U hb=>by
      have s:=(un HS).later hb;exact⟨s.a.c1,s.a.lt,s.r.lt⟩
    have zv:=(un HC V (Below.refl _ _)).2;clear t0
    go_region_held3 (fun w'=>w'.cell? ⟨w.heap.size,1,none⟩=some (.string den)) (first|assumption|(simp[go_sem, *];done)|(rw[World.cell?_setCell_other _ _ _ _ (by simp;omega),World.cell?_setCell_other _ _ _ _ (by simp;omega),World.cell?_setCell_other _ _ _ _ (by simp;omega)];assumption)) ((first
      | (go_at_call_of 187 (Value.string ds);go_must(refine(un HB1 _).mono ?_;rintro e wa ⟨va,rfl,hva,hba⟩;obtain⟨aa,la,ca,rfl⟩:=hva.shape;have HVA:=zAb hva;have HCA:Hid (Bw V wa):=(by first|exact((Below.refl V.heap.size V).drew).trans hba|exact(((Below.refl V.heap.size V).drew).alloc (by simp) _).trans (hba.mono (by simp)));(first|(have HN:Hid (FBox wa V.heap.size (.bool false) (.slice none 0 0) (.slice none 0 0)):=(FBox.new V.drew _ _ _).later hba;have nc0:=(un HN).c0;have nc1:=(un HN).c1;have nc2:=(un HN).c2;have nf0:=(un HN).f0;have nf1:=(un HN).f1;have nf2:=(un HN).f2)|skip);clear hva hba t1;obtain⟨t1,za⟩:=un HC wa (un HCA)))
      | (go_at_call 187;go_must(refine(un HB2 _).mono ?_;rintro e wb ⟨vb,rfl,hvb,hbb⟩;obtain⟨ab,lb,cb,rfl⟩:=hvb.shape;have HVB:=zAb hvb;have Htrue:Hid (Bw wa wb):=(by first|exact hbb|exact bA.trans (hbb.mono (by simp)));have HVA':=zAb ((un HVA).later (un Htrue));have HCB:=zAb ((un HCA).trans ((un Htrue).mono (un HCA).size));(first|(have HN2:=zAb ((un HN).later hbb);clear HN;have HN:=HN2;clear HN2;clear nc0 nc1 nc2 nf0 nf1 nf2;have nc0:=(un HN).c0;have nc1:=(un HN).c1;have nc2:=(un HN).c2;have nf0:=(un HN).f0;have nf1:=(un HN).f1;have nf2:=(un HN).f2)|(have HN:=zAb ((FBox.new _ _ _ _).later hbb);have nc0:=(un HN).c0;have nc1:=(un HN).c1;have nc2:=(un HN).c2;have nf0:=(un HN).f0;have nf1:=(un HN).f1;have nf2:=(un HN).f2)|skip);clear hvb hbb t1;obtain⟨t1,zb⟩:=un HC wb (un HCB)))))
    all_goals
      first
      | (obtain⟨V4,hV4⟩:∃V4,V4=wb.alloc (.cells #[.bool true,.slice aa la ca,.slice ab lb cb] 82):=⟨_,rfl⟩
         rw[←hV4];have hb:Below wb.heap.size wb V4:=by rw[hV4];exact bA
         have HS4:Hid (RS w V4 (.string num) (.string den)):=((un HS).later (un HCB)).later hb;have HF4:Hid (FBox V4 wb.heap.size (.bool true) (.slice aa la ca) (.slice ab lb cb)):=by rw[hV4];exact FBox.new _ _ _ _
         have HN4:=zAb ((un HVA').later hb);have HD4:=zAb ((un HVB).later hb);have hgr:w.heap.size+1<wb.heap.size:=zb.2;clear hV4 hb zv za zb t1 HVA HVA' HVB HCA HCB Htrue HS HC;generalize wb.heap.size=g6 at *)
      | (obtain⟨V4,hV4⟩:∃V4,V4=((wb.setCell ⟨V.heap.size,0,none⟩ (.bool true)).setCell ⟨V.heap.size,1,none⟩ (.slice aa la ca)).setCell ⟨V.heap.size,2,none⟩ (.slice ab lb cb):=⟨_,rfl⟩
         rw[←hV4];have hgr:w.heap.size+1<V.heap.size:=zv.2;have HF4:Hid (FBox V4 V.heap.size (.bool true) (.slice aa la ca) (.slice ab lb cb)):=by rw[hV4];exact(un HN).store _ _ _
         have HN4:Hid (zAf V4 (.agg #[.slice aa la ca]) n):=by rw[hV4];exact(un HN).big _ _ _ (un HVA')
         have HD4:Hid (zAf V4 (.agg #[.slice ab lb cb]) d):=by rw[hV4];exact(un HN).big _ _ _ (un HVB)
         have HS4:Hid (RS w V4 (.string num) (.string den)):=by
           rw[hV4];have s:=(un HS).later (un HCB);exact⟨((s.a.otherAt (by omega) _).otherAt (by omega) _).otherAt (by omega) _,((s.r.otherAt (by omega) _).otherAt (by omega) _).otherAt (by omega) _,zAq s.below (by omega) _ _ _⟩
         clear hV4 zv za zb t1 HVA HVA' HVB HCA HCB Htrue HS HC HN nc0 nc1 nc2 nf0 nf1 nf2;generalize V.heap.size=g6 at *)
      | (obtain⟨V4,hV4⟩:∃V4,V4=((wb.setCell ⟨wa.heap.size,0,none⟩ (.bool true)).setCell ⟨wa.heap.size,1,none⟩ (.slice aa la ca)).setCell ⟨wa.heap.size,2,none⟩ (.slice ab lb cb):=⟨_,rfl⟩
         rw[←hV4];have hgr:w.heap.size+1<wa.heap.size:=za.2;have HF4:Hid (FBox V4 wa.heap.size (.bool true) (.slice aa la ca) (.slice ab lb cb)):=by rw[hV4];exact(un HN).store _ _ _
         have HN4:Hid (zAf V4 (.agg #[.slice aa la ca]) n):=by rw[hV4];exact(un HN).big _ _ _ (un HVA')
         have HD4:Hid (zAf V4 (.agg #[.slice ab lb cb]) d):=by rw[hV4];exact(un HN).big _ _ _ (un HVB)
         have HS4:Hid (RS w V4 (.string num) (.string den)):=by
           rw[hV4];have s:=(un HS).later (un HCB);exact⟨((s.a.otherAt (by omega) _).otherAt (by omega) _).otherAt (by omega) _,((s.r.otherAt (by omega) _).otherAt (by omega) _).otherAt (by omega) _,zAq s.below (by omega) _ _ _⟩
         clear hV4 zv za zb t1 HVA HVA' HVB HCA HCB Htrue HS HC HN nc0 nc1 nc2 nf0 nf1 nf2;generalize wa.heap.size=g6 at *)
      have t0:=(un HF4).c0;have t1:=(un HF4).c1;have t2:=(un HF4).c2
      go_wp2_with (first
        | (go_at_call 148;go_must(refine(un HG _ _ _ (un HN4) (un HD4)).mono ?_;rintro e w5 ⟨ag,lg,cg,rfl,hv5,hb5⟩;have HG5:=zAb hv5;have HB5:=zAb hb5;clear hv5 hb5))
        | (go_at_call 188;go_must(refine(un H1 _ _ (un HG5)).mono ?_;rintro e w6 ⟨rfl,hb6⟩;have HB6:=zAb (bt HB5 hb6);clear hb6 t0 t1 t2;have HS6:=zAb ((un HS4).later (un HB6));have HF6:=zAb ((un HF4).later (un HB6));have t0:=(un HF6).c0;have t1:=(un HF6).c1;have t2:=(un HF6).c2;have r0:=(un HS6).r.c0;have r1:=(un HS6).r.c1;have r2:=(un HS6).r.c2;have rf0:=(un HS6).r.f0;have rf1:=(un HS6).r.f1;have rf2:=(un HS6).r.f2)))
      have hS:=(un HS6).r.store (.bool true) (.slice aa la ca) (.slice ab lb cb);have hb:Below w.heap.size w (zAs w6 (w.heap.size+1) (.bool true) (.slice aa la ca) (.slice ab lb cb)):=zAq (un HS6).below (by omega) _ _ _;have u0:=hS.c0;have u1:=hS.c1;have u2:=hS.c2;exact bodyPost_ret (v:=.tuple #[.agg #[.bool true,.slice aa la ca,.slice ab lb cb],.bool true]) (w:=zAs w6 (w.heap.size+1) (.bool true) (.slice aa la ca) (.slice ab lb cb)) (by simp[results,Tryz.results118,go_sem,u0,u1,u2]) rfl ⟨_,rfl,⟨_,n,d,⟨_,_,rfl,(un HS6).r.big _ _ _ ((un HN4).later (un HB6)),(un HS6).r.big _ _ _ ((un HD4).later (un HB6))⟩,un HLOW,rfl,(un HLT).1,(un HLT).2⟩,hb⟩
  | false=>
    clear z1
    go_upto_region 4 with (first
      | (go_at_call 185;go_must(refine(un HC68).mono ?_;rintro e w1 ⟨rfl,hw1⟩;obtain rfl:V=w1:=hw1.symm))
      | (go_at_call_of 186 (Value.string ds);go_must(refine(un HR1).mono ?_;rintro e w1 ⟨rfl,hw1⟩;obtain rfl:V=w1:=hw1.symm))
      | (go_at_call 186;go_must(refine(un HR2).mono ?_;rintro e w1 ⟨rfl,hw1⟩;obtain rfl:V=w1:=hw1.symm)))
    have HC:Hid (∀U,Below V.heap.size V U→U.cell? ⟨w.heap.size,1,none⟩=some (.string den)∧w.heap.size<U.heap.size∧w.heap.size+1<U.heap.size):=fun U hb=>by
      have s:=(un HS).later hb;exact⟨s.a.c1,s.a.lt,s.r.lt⟩
    have zv:=(un HC V (Below.refl _ _)).2;clear t0
    go_region_held3 (fun w'=>w'.cell? ⟨w.heap.size,1,none⟩=some (.string den)) (first|assumption|(simp[go_sem, *];done)|(rw[World.cell?_setCell_other _ _ _ _ (by simp;omega),World.cell?_setCell_other _ _ _ _ (by simp;omega),World.cell?_setCell_other _ _ _ _ (by simp;omega)];assumption)) ((first
      | (go_at_call_of 187 (Value.string ds);go_must(refine(un HB1 _).mono ?_;rintro e wa ⟨va,rfl,hva,hba⟩;obtain⟨aa,la,ca,rfl⟩:=hva.shape;have HVA:=zAb hva;have HCA:Hid (Bw V wa):=(by first|exact((Below.refl V.heap.size V).drew).trans hba|exact(((Below.refl V.heap.size V).drew).alloc (by simp) _).trans (hba.mono (by simp)));(first|(have HN:Hid (FBox wa V.heap.size (.bool false) (.slice none 0 0) (.slice none 0 0)):=(FBox.new V.drew _ _ _).later hba;have nc0:=(un HN).c0;have nc1:=(un HN).c1;have nc2:=(un HN).c2;have nf0:=(un HN).f0;have nf1:=(un HN).f1;have nf2:=(un HN).f2)|skip);clear hva hba t1;obtain⟨t1,za⟩:=un HC wa (un HCA)))
      | (go_at_call 187;go_must(refine(un HB2 _).mono ?_;rintro e wb ⟨vb,rfl,hvb,hbb⟩;obtain⟨ab,lb,cb,rfl⟩:=hvb.shape;have HVB:=zAb hvb;have Hfalse:Hid (Bw wa wb):=(by first|exact hbb|exact bA.trans (hbb.mono (by simp)));have HVA':=zAb ((un HVA).later (un Hfalse));have HCB:=zAb ((un HCA).trans ((un Hfalse).mono (un HCA).size));(first|(have HN2:=zAb ((un HN).later hbb);clear HN;have HN:=HN2;clear HN2;clear nc0 nc1 nc2 nf0 nf1 nf2;have nc0:=(un HN).c0;have nc1:=(un HN).c1;have nc2:=(un HN).c2;have nf0:=(un HN).f0;have nf1:=(un HN).f1;have nf2:=(un HN).f2)|(have HN:=zAb ((FBox.new _ _ _ _).later hbb);have nc0:=(un HN).c0;have nc1:=(un HN).c1;have nc2:=(un HN).c2;have nf0:=(un HN).f0;have nf1:=(un HN).f1;have nf2:=(un HN).f2)|skip);clear hvb hbb t1;obtain⟨t1,zb⟩:=un HC wb (un HCB)))))
    all_goals
      first
      | (obtain⟨V4,hV4⟩:∃V4,V4=wb.alloc (.cells #[.bool false,.slice aa la ca,.slice ab lb cb] 82):=⟨_,rfl⟩
         rw[←hV4];have hb:Below wb.heap.size wb V4:=by rw[hV4];exact bA
         have HS4:Hid (RS w V4 (.string num) (.string den)):=((un HS).later (un HCB)).later hb;have HF4:Hid (FBox V4 wb.heap.size (.bool false) (.slice aa la ca) (.slice ab lb cb)):=by rw[hV4];exact FBox.new _ _ _ _
         have HN4:=zAb ((un HVA').later hb);have HD4:=zAb ((un HVB).later hb);have hgr:w.heap.size+1<wb.heap.size:=zb.2;clear hV4 hb zv za zb t1 HVA HVA' HVB HCA HCB Hfalse HS HC;generalize wb.heap.size=g6 at *)
      | (obtain⟨V4,hV4⟩:∃V4,V4=((wb.setCell ⟨V.heap.size,0,none⟩ (.bool false)).setCell ⟨V.heap.size,1,none⟩ (.slice aa la ca)).setCell ⟨V.heap.size,2,none⟩ (.slice ab lb cb):=⟨_,rfl⟩
         rw[←hV4];have hgr:w.heap.size+1<V.heap.size:=zv.2;have HF4:Hid (FBox V4 V.heap.size (.bool false) (.slice aa la ca) (.slice ab lb cb)):=by rw[hV4];exact(un HN).store _ _ _
         have HN4:Hid (zAf V4 (.agg #[.slice aa la ca]) n):=by rw[hV4];exact(un HN).big _ _ _ (un HVA')
         have HD4:Hid (zAf V4 (.agg #[.slice ab lb cb]) d):=by rw[hV4];exact(un HN).big _ _ _ (un HVB)
         have HS4:Hid (RS w V4 (.string num) (.string den)):=by
           rw[hV4];have s:=(un HS).later (un HCB);exact⟨((s.a.otherAt (by omega) _).otherAt (by omega) _).otherAt (by omega) _,((s.r.otherAt (by omega) _).otherAt (by omega) _).otherAt (by omega) _,zAq s.below (by omega) _ _ _⟩
         clear hV4 zv za zb t1 HVA HVA' HVB HCA HCB Hfalse HS HC HN nc0 nc1 nc2 nf0 nf1 nf2;generalize V.heap.size=g6 at *)
      | (obtain⟨V4,hV4⟩:∃V4,V4=((wb.setCell ⟨wa.heap.size,0,none⟩ (.bool false)).setCell ⟨wa.heap.size,1,none⟩ (.slice aa la ca)).setCell ⟨wa.heap.size,2,none⟩ (.slice ab lb cb):=⟨_,rfl⟩
         rw[←hV4];have hgr:w.heap.size+1<wa.heap.size:=za.2;have HF4:Hid (FBox V4 wa.heap.size (.bool false) (.slice aa la ca) (.slice ab lb cb)):=by rw[hV4];exact(un HN).store _ _ _
         have HN4:Hid (zAf V4 (.agg #[.slice aa la ca]) n):=by rw[hV4];exact(un HN).big _ _ _ (un HVA')
         have HD4:Hid (zAf V4 (.agg #[.slice ab lb cb]) d):=by rw[hV4];exact(un HN).big _ _ _ (un HVB)
         have HS4:Hid (RS w V4 (.string num) (.string den)):=by
           rw[hV4];have s:=(un HS).later (un HCB);exact⟨((s.a.otherAt (by omega) _).otherAt (by omega) _).otherAt (by omega) _,((s.r.otherAt (by omega) _).otherAt (by omega) _).otherAt (by omega) _,zAq s.below (by omega) _ _ _⟩
         clear hV4 zv za zb t1 HVA HVA' HVB HCA HCB Hfalse HS HC HN nc0 nc1 nc2 nf0 nf1 nf2;generalize wa.heap.size=g6 at *)
      have t0:=(un HF4).c0;have t1:=(un HF4).c1;have t2:=(un HF4).c2
      go_wp2_with (first
        | (go_at_call 148;go_must(refine(un HG _ _ _ (un HN4) (un HD4)).mono ?_;rintro e w5 ⟨ag,lg,cg,rfl,hv5,hb5⟩;have HG5:=zAb hv5;have HB5:=zAb hb5;clear hv5 hb5))
        | (go_at_call 188;go_must(refine(un H1 _ _ (un HG5)).mono ?_;rintro e w6 ⟨rfl,hb6⟩;have HB6:=zAb (bt HB5 hb6);clear hb6 t0 t1 t2;have HS6:=zAb ((un HS4).later (un HB6));have HF6:=zAb ((un HF4).later (un HB6));have t0:=(un HF6).c0;have t1:=(un HF6).c1;have t2:=(un HF6).c2;have r0:=(un HS6).r.c0;have r1:=(un HS6).r.c1;have r2:=(un HS6).r.c2;have rf0:=(un HS6).r.f0;have rf1:=(un HS6).r.f1;have rf2:=(un HS6).r.f2)))
      have hS:=(un HS6).r.store (.bool false) (.slice aa la ca) (.slice ab lb cb);have hb:Below w.heap.size w (zAs w6 (w.heap.size+1) (.bool false) (.slice aa la ca) (.slice ab lb cb)):=zAq (un HS6).below (by omega) _ _ _;have u0:=hS.c0;have u1:=hS.c1;have u2:=hS.c2;exact bodyPost_ret (v:=.tuple #[.agg #[.bool false,.slice aa la ca,.slice ab lb cb],.bool true]) (w:=zAs w6 (w.heap.size+1) (.bool false) (.slice aa la ca) (.slice ab lb cb)) (by simp[results,Tryz.results118,go_sem,u0,u1,u2]) rfl ⟨_,rfl,⟨_,n,d,⟨_,_,rfl,(un HS6).r.big _ _ _ ((un HN4).later (un HB6)),(un HS6).r.big _ _ _ ((un HD4).later (un HB6))⟩,un HLOW,rfl,(un HLT).1,(un HLT).2⟩,hb⟩
def Small (x:Rat):Prop:=x.num.natAbs<10 ^ 600∧x.den<10 ^ 600
noncomputable def zEp (x:Rat):ByteArray:=open Classical in if Small x then sT (decide (x<0)) x.num.natAbs else⟨#[]⟩
noncomputable def zEr (x:Rat):ByteArray:=open Classical in if Small x then tb x.den else⟨#[]⟩
noncomputable def zHa (x:Rat):Int:=open Classical in if Small x then 0 else 7
structure TS (w W:World) (x y z:Value):Prop where
 a:FBox W w.heap.size x y z
 r:T2 W (w.heap.size+1) (G #[]) (G #[])
 below:Below w.heap.size w W
theorem TS.later {w W V:World} {x y z:Value} (s:TS w W x y z) (hb:Below W.heap.size W V):TS w V x y z:=⟨s.a.later hb,s.r.later hb,s.below.trans (hb.mono s.below.size)⟩
theorem TS.first (w:World) (x y z:Value):TS w ((w.alloc (.cells #[x,y,z] 82)).alloc (.cells #[G #[],G #[]] 28)) x y z :=
 ⟨⟨by simp[go_sem],by simp[go_sem],by simp[go_sem],by simp[go_sem],by simp[go_sem],by simp[go_sem]⟩,⟨by simp[go_sem],by simp[go_sem],by simp[go_sem],by simp[go_sem]⟩,bA.alloc (by simp) _⟩
def zBh (W:World) (g:Nat) (x y:Value):World:=(W.setCell ⟨g,0,none⟩ x).setCell ⟨g,1,none⟩ y
theorem T2.store {W:World} {g:Nat} {x y:Value} (h:T2 W g x y) (x' y':Value):T2 (zBh W g x' y') g x' y':=by
 have a1:(W.setCell ⟨g,0,none⟩ x').cell? ⟨g,1,none⟩=some y:=by rw[World.cell?_setCell_other _ _ _ _ (by simp)];exact h.c1
 unfold zBh;refine⟨?_,World.cell?_setCell_same _ _ _ a1,?_,?_⟩
 ·rw[World.cell?_setCell_other _ _ _ _ (by simp)];exact World.cell?_setCell_same _ _ _ h.c0
 ·rw[World.frozen?_setCell,World.frozen?_setCell];exact h.f0
 ·rw[World.frozen?_setCell,World.frozen?_setCell];exact h.f1
theorem zAk {B g:Nat} {w W:World} (h:Below B w W) (hg:B≤g) (x y:Value):Below B w (zBh W g x y) :=
 (h.setCell (p:=⟨g,0,none⟩) hg x).setCell (p:=⟨g,1,none⟩) hg y
theorem tell_ok (v:Value) (b:Bool) (n d k:Nat) (w:World) (h:zCd w v b n d) (hk:k≤1000000) (hnk:n<1000000000 ^ k) (hdk:d<1000000000 ^ k) (hn:n<10 ^ 600) (hd:d<10 ^ 600) (htab:Tab w) :
  Calls Tryz.prog 55 #[v] w fun r w'=>r=.returned (.tuple #[.agg #[.string (sT b n),.string (tb d)],I 0])∧Bw w w':=by
 obtain⟨a1,l1,c1,a2,l2,c2,rfl,h1,h2⟩:=h.form;obtain⟨V,hV⟩:∃V,V=(w.alloc (.cells #[.bool b,.slice a1 l1 c1,.slice a2 l2 c2] 82)).alloc (.cells #[G #[],G #[]] 28):=⟨_,rfl⟩;have HS:Hid (TS w V (.bool b) (.slice a1 l1 c1) (.slice a2 l2 c2)):=by rw[hV];exact TS.first _ _ _ _
 have HV:=zAb hV;have HLN:Hid (∀W,Below V.heap.size V W→Calls Tryz.prog 119 #[.agg #[.slice a1 l1 c1]] W fun e w'=>e=.returned (I (Lib.nDigits n:Nat))∧Bw W w'):=fun W hb=>zGu _ n k W ((h1.later (un HS).below).later hb) hk hnk
 have HLD:Hid (∀W,Below V.heap.size V W→Calls Tryz.prog 119 #[.agg #[.slice a2 l2 c2]] W fun e w'=>e=.returned (I (Lib.nDigits d:Nat))∧Bw W w'):=fun W hb=>zGu _ d k W ((h2.later (un HS).below).later hb) hk hdk
 have HTN:Hid (∀W,Below V.heap.size V W→Calls Tryz.prog 121 #[.agg #[.slice a1 l1 c1]] W fun e w'=>e=.returned (.string (tb n))∧Bw W w'):=fun W hb=>by
  have:=text_any _ n k W ((h1.later (un HS).below).later hb) hk hnk ((htab.later (un HS).below).later hb)
  rwa [show(⟨(Lib.decDigits n).toArray⟩:ByteArray)=tb n from zGb (by rw[tb_list n hn])]at this
 have HTD:Hid (∀W,Below V.heap.size V W→Calls Tryz.prog 121 #[.agg #[.slice a2 l2 c2]] W fun e w'=>e=.returned (.string (tb d))∧Bw W w'):=fun W hb=>by
  have:=text_any _ d k W ((h2.later (un HS).below).later hb) hk hdk ((htab.later (un HS).below).later hb)
  rwa [show(⟨(Lib.decDigits d).toArray⟩:ByteArray)=tb d from zGb (by rw[tb_list d hd])]at this
 have HSG:Hid (∀W,Calls Tryz.prog 120 #[.bool b,.string (tb n)] W fun e w'=>e=.returned (.string (sT b n))∧w'=W):=fun W=>signed_any b (tb n) W (by have:=(zFd n hn).2;omega)
 have n1:(Lib.nDigits n:Nat)≤600:=(len600 n).2 hn;have n2:(Lib.nDigits d:Nat)≤600:=(len600 d).2 hd;clear h h1 h2 hk hnk hdk hn hd htab;generalize (Lib.nDigits n:Nat)=L1 at *
 generalize (Lib.nDigits d:Nat)=L2 at *
 generalize sT b n=sn at *
 generalize tb n=tn at *
 generalize tb d=td at *
 have HC:Hid (∀w',Below V.heap.size V w'→(w'.cell? ⟨w.heap.size,0,none⟩=some (.bool b)∧w'.cell? ⟨w.heap.size,1,none⟩=some (.slice a1 l1 c1)∧w'.cell? ⟨w.heap.size,2,none⟩=some (.slice a2 l2 c2))∧w'.cell? ⟨w.heap.size+1,0,none⟩=some (G #[])∧w'.cell? ⟨w.heap.size+1,1,none⟩=some (G #[])∧w'.frozen? ⟨w.heap.size+1,0,none⟩=false∧w'.frozen? ⟨w.heap.size+1,1,none⟩=false):=fun U hb=>by
  have s:=(un HS).later hb;exact⟨⟨s.a.c0,s.a.c1,s.a.c2⟩,s.r.c0,s.r.c1,s.r.f0,s.r.f1⟩
 go_enter Tryz.func55,Tryz.ntmps55
 go_upto_region 1 with fail
 rw[←un HV];clear hV HV;obtain⟨⟨t0,t1,t2⟩,_⟩:=un HC V (Below.refl _ _)
 go_upto_region 3 with (first
  | (go_at_call_of 119 (Value.agg #[Value.slice a1 l1 c1]);go_must(refine(un HLN _ (Below.refl _ _)).mono ?_;rintro e w1 ⟨rfl,hb1⟩;have HB1:=zAb hb1;clear hb1 t0 t1 t2;obtain⟨⟨t0,t1,t2⟩,_⟩:=un HC w1 (un HB1)))
  | (go_at_call_of 119 (Value.agg #[Value.slice a2 l2 c2]);go_must(refine(un HLD _ (un HB1)).mono ?_;rintro e w2 ⟨rfl,hb2⟩;have HB2:=zAb (bt HB1 hb2);clear hb2 t0 t1 t2;obtain⟨⟨t0,t1,t2⟩,_⟩:=un HC w2 (un HB2))))
 have HBT:Hid (∀U,Below w2.heap.size w2 U→Below V.heap.size V U):=fun U hb=>bt HB2 hb
 go_region_held3 (fun w'=>w'.cell? ⟨w.heap.size,0,none⟩=some (.bool b)∧w'.cell? ⟨w.heap.size,1,none⟩=some (.slice a1 l1 c1)∧w'.cell? ⟨w.heap.size,2,none⟩=some (.slice a2 l2 c2)) (first|assumption|(refine⟨?_,?_,?_⟩<;>first|assumption|(simp[go_sem, *];done))|(simp[go_sem, *];done)) ((first
  | (go_at_call_of 121 (Value.agg #[Value.slice a1 l1 c1]);go_must(refine(un HTN _ (un HBT _ ((Below.refl _ _).drew))).mono ?_;rintro e w3 ⟨rfl,hb3⟩;have HB3:=zAb (((Below.refl w2.heap.size w2).drew).trans hb3);clear hb3 t0 t1 t2;obtain⟨⟨t0,t1,t2⟩,_⟩:=un HC w3 (un HBT _ (un HB3))))
  | (go_at_call 120;go_must(refine(un HSG _).mono ?_;rintro e w4 ⟨rfl,hw4⟩;obtain rfl:w3=w4:=hw4.symm))
  | (go_at_call_of 121 (Value.agg #[Value.slice a2 l2 c2]);go_must(refine(un HTD _ (un HBT _ (un HB3))).mono ?_;rintro e w5 ⟨rfl,hb5⟩;have HB5:=zAb (bt HB3 hb5);clear hb5 t0 t1 t2;obtain⟨⟨t0,t1,t2⟩,r0,r1,rf0,rf1⟩:=un HC w5 (un HBT _ (un HB5))))))
 have HS5:=zAb ((un HS).later (un HBT _ (un HB5)));clear r0 r1 rf0 rf1 t0 t1 t2;have hS:=(un HS5).r.store (.string sn) (.string td);have hb:Below w.heap.size w (zBh w5 (w.heap.size+1) (.string sn) (.string td)):=zAk (un HS5).below (by omega) _ _;obtain⟨V9,hV9⟩:∃V9,V9=zBh w5 (w.heap.size+1) (.string sn) (.string td):=⟨_,rfl⟩;have hV9':V9=(w5.setCell ⟨w.heap.size+1,0,none⟩ (.string sn)).setCell ⟨w.heap.size+1,1,none⟩ (.string td):=hV9;have u0:=hS.c0;have u1:=hS.c1;rw[←hV9]at u0 u1 hb;rw[←hV9'];have HB9:=zAb hb;clear hV9 hV9' hS hb
 go_wp2_with fail
 exact bodyPost_ret (v:=.tuple #[.agg #[.string sn,.string td],I 0]) (by simp[results,Tryz.results55,go_sem,u0,u1]) rfl ⟨rfl,un HB9⟩
theorem tell_large (v:Value) (b:Bool) (n d k:Nat) (w:World) (h:zCd w v b n d) (hk:k≤1000000) (hnk:n<1000000000 ^ k) (hdk:d<1000000000 ^ k) (hl:¬(n<10 ^ 600∧d<10 ^ 600)) :
  Calls Tryz.prog 55 #[v] w fun r w'=>r=.returned (.tuple #[.agg #[G #[],G #[]],I 7])∧Bw w w':=by
 obtain⟨a1,l1,c1,a2,l2,c2,rfl,h1,h2⟩:=h.form;obtain⟨V,hV⟩:∃V,V=(w.alloc (.cells #[.bool b,.slice a1 l1 c1,.slice a2 l2 c2] 82)).alloc (.cells #[G #[],G #[]] 28):=⟨_,rfl⟩;have HS:Hid (TS w V (.bool b) (.slice a1 l1 c1) (.slice a2 l2 c2)):=by rw[hV];exact TS.first _ _ _ _
 have HV:=zAb hV;have HLN:Hid (∀W,Below V.heap.size V W→Calls Tryz.prog 119 #[.agg #[.slice a1 l1 c1]] W fun e w'=>e=.returned (I (Lib.nDigits n:Nat))∧Bw W w'):=fun W hb=>zGu _ n k W ((h1.later (un HS).below).later hb) hk hnk
 have HLD:Hid (∀W,Below V.heap.size V W→Calls Tryz.prog 119 #[.agg #[.slice a2 l2 c2]] W fun e w'=>e=.returned (I (Lib.nDigits d:Nat))∧Bw W w'):=fun W hb=>zGu _ d k W ((h2.later (un HS).below).later hb) hk hdk
 have hl':¬((Lib.nDigits n:Nat)≤600∧(Lib.nDigits d:Nat)≤600):=fun h=>hl ⟨(len600 n).1 h.1,(len600 d).1 h.2⟩
 clear h h1 h2 hk hnk hdk hl;generalize (Lib.nDigits n:Nat)=L1 at *
 generalize (Lib.nDigits d:Nat)=L2 at *
 have HC:Hid (∀w',Below V.heap.size V w'→(w'.cell? ⟨w.heap.size,0,none⟩=some (.bool b)∧w'.cell? ⟨w.heap.size,1,none⟩=some (.slice a1 l1 c1)∧w'.cell? ⟨w.heap.size,2,none⟩=some (.slice a2 l2 c2))∧w'.cell? ⟨w.heap.size+1,0,none⟩=some (G #[])∧w'.cell? ⟨w.heap.size+1,1,none⟩=some (G #[])∧w'.frozen? ⟨w.heap.size+1,0,none⟩=false∧w'.frozen? ⟨w.heap.size+1,1,none⟩=false):=fun U hb=>by
  have s:=(un HS).later hb;exact⟨⟨s.a.c0,s.a.c1,s.a.c2⟩,s.r.c0,s.r.c1,s.r.f0,s.r.f1⟩
 go_enter Tryz.func55,Tryz.ntmps55
 go_upto_region 1 with fail
 rw[←un HV];clear hV HV;obtain⟨⟨t0,t1,t2⟩,_⟩:=un HC V (Below.refl _ _)
 by_cases hq:L1≤600
 ·have hq2:¬L2≤600:=fun h=>hl' ⟨hq,h⟩
  clear hl'
  go_wp2_with (first
   | (go_at_call_of 119 (Value.agg #[Value.slice a1 l1 c1]);go_must(refine(un HLN _ (Below.refl _ _)).mono ?_;rintro e w1 ⟨rfl,hb1⟩;have HB1:=zAb hb1;clear hb1 t0 t1 t2;obtain⟨⟨t0,t1,t2⟩,_⟩:=un HC w1 (un HB1)))
   | (go_at_call_of 119 (Value.agg #[Value.slice a2 l2 c2]);go_must(refine(un HLD _ (un HB1)).mono ?_;rintro e w2 ⟨rfl,hb2⟩;have HB2:=zAb (bt HB1 hb2);clear hb2 t0 t1 t2;obtain⟨⟨t0,t1,t2⟩,r0,r1,rf0,rf1⟩:=un HC w2 (un HB2))))
  have HS5:=zAb ((un HS).later (un HB2));have hS:=(un HS5).r.store (G #[]) (G #[]);have hb:Below w.heap.size w (zBh w2 (w.heap.size+1) (G #[]) (G #[])):=zAk (un HS5).below (by omega) _ _;have u0:=hS.c0;have u1:=hS.c1;exact bodyPost_ret (v:=.tuple #[.agg #[G #[],G #[]],I 7]) (w:=zBh w2 (w.heap.size+1) (G #[]) (G #[])) (by simp[results,Tryz.results55,go_sem,u0,u1]) rfl ⟨rfl,hb⟩
 ·clear hl'
  go_wp2_with (go_at_call_of 119 (Value.agg #[Value.slice a1 l1 c1]);go_must(refine(un HLN _ (Below.refl _ _)).mono ?_;rintro e w2 ⟨rfl,hb1⟩;have HB2:=zAb hb1;clear hb1 t0 t1 t2;obtain⟨⟨t0,t1,t2⟩,r0,r1,rf0,rf1⟩:=un HC w2 (un HB2)))
  have HS5:=zAb ((un HS).later (un HB2));have hS:=(un HS5).r.store (G #[]) (G #[]);have hb:Below w.heap.size w (zBh w2 (w.heap.size+1) (G #[]) (G #[])):=zAk (un HS5).below (by omega) _ _;have u0:=hS.c0;have u1:=hS.c1;exact bodyPost_ret (v:=.tuple #[.agg #[G #[],G #[]],I 7]) (w:=zBh w2 (w.heap.size+1) (G #[]) (G #[])) (by simp[results,Tryz.results55,go_sem,u0,u1]) rfl ⟨rfl,hb⟩
theorem qtell (v:Value) (x:Rat) (k:Nat) (w:World) (h:QOf w v x k) (hk:k≤1000000) (htab:Tab w) :
  Calls Tryz.prog 55 #[v] w fun r w'=>r=.returned (.tuple #[.agg #[.string (zEp x),.string (zEr x)],I (zHa x)])∧Bw w w':=by
 obtain⟨b,n,d,h1,h2,rfl,h4,h5⟩:=h;obtain⟨e1,e2,e3⟩:=Cub.low_is h2
 by_cases hs:Small (Cub.valQ b n d)
 ·have hn:n<10 ^ 600:=by rw[e2];exact hs.1
  have hd:d<10 ^ 600:=by rw[e3];exact hs.2
  have:=tell_ok v b n d k w h1 hk h4 h5 hn hd htab;unfold zEp zEr zHa;rw[if_pos hs,if_pos hs,if_pos hs,←e1,←e2,←e3];exact this
 ·have:=tell_large v b n d k w h1 hk h4 h5 (fun h=>hs ⟨by rw[←e2];exact h.1,by rw[←e3];exact h.2⟩)
  unfold zEp zEr zHa;rw[if_neg hs,if_neg hs,if_neg hs];exact this
def IsR (num den:ByteArray) (x:Rat):Prop:=Small x∧num=zEp x∧den=zEr x
theorem IsR.rt {num den:ByteArray} {x:Rat} (h:IsR num den x):RT num den (decide (x<0)) x.num.natAbs x.den:=by
 obtain⟨hs,rfl,rfl⟩:=h;unfold zEp zEr;rw[if_pos hs,if_pos hs];exact⟨rfl,rfl,hs.1,hs.2,(Cub.low_of x).1⟩
theorem qread (num den:ByteArray) (x:Rat) (w:World) (h:IsR num den x) :
  Calls Tryz.prog 118 #[.agg #[.string num,.string den]] w fun r w'=>∃v,r=.returned (.tuple #[v,.bool true])∧QOf w' v x 67∧Bw w w':=by
 have r:=h.rt;have:=read_ok num den _ _ _ w r.num r.den r.hn r.hd r.low.sign (by have:=r.low.pos;omega) r.low.cop
 rwa [(Cub.low_of x).2]at this
structure W2 (w W:World) (x y z t p0 p1 p2 q0 q1 q2:Value):Prop where
 a:T2 W w.heap.size x y
 b:T2 W (w.heap.size+1) z t
 p:FBox W (w.heap.size+1+1) p0 p1 p2
 q:FBox W (w.heap.size+1+1+1) q0 q1 q2
 below:Below w.heap.size w W
theorem W2.later {w W V:World} {x y z t p0 p1 p2 q0 q1 q2:Value} (s:W2 w W x y z t p0 p1 p2 q0 q1 q2) (hb:Below W.heap.size W V):W2 w V x y z t p0 p1 p2 q0 q1 q2 :=
 ⟨s.a.later hb,s.b.later hb,s.p.later hb,s.q.later hb,s.below.trans (hb.mono s.below.size)⟩
theorem W2.first (w:World) (x y z t:Value):W2 w ((((w.alloc (.cells #[x,y] 28)).alloc (.cells #[z,t] 28)).alloc (.cells #[.bool false,.slice none 0 0,.slice none 0 0] 82)).alloc (.cells #[.bool false,.slice none 0 0,.slice none 0 0] 82)) x y z t (.bool false) (.slice none 0 0) (.slice none 0 0) (.bool false) (.slice none 0 0) (.slice none 0 0) :=
 ⟨⟨by simp[go_sem],by simp[go_sem],by simp[go_sem],by simp[go_sem]⟩,⟨by simp[go_sem],by simp[go_sem],by simp[go_sem],by simp[go_sem]⟩,⟨by simp[go_sem],by simp[go_sem],by simp[go_sem],by simp[go_sem],by simp[go_sem],by simp[go_sem]⟩,⟨by simp[go_sem],by simp[go_sem],by simp[go_sem],by simp[go_sem],by simp[go_sem],by simp[go_sem]⟩,
  ((bA.alloc (by simp) _).alloc (by simp;omega) _).alloc (by simp;omega) _⟩
theorem FBox.other3 {W:World} {g k:Nat} {x y z:Value} (h:FBox W g x y z) (hk:g≠k) (u v s:Value):FBox (zAs W k u v s) g x y z:=((h.otherAt hk u).otherAt hk v).otherAt hk s
theorem T2.other3 {W:World} {g k:Nat} {x y:Value} (h:T2 W g x y) (hk:g≠k) (u v s:Value):T2 (zAs W k u v s) g x y:=((h.otherAt hk u).otherAt hk v).otherAt hk s
theorem W2.setP {w W:World} {x y z t p0 p1 p2 q0 q1 q2:Value} (s:W2 w W x y z t p0 p1 p2 q0 q1 q2) (u v r:Value):W2 w (zAs W (w.heap.size+1+1) u v r) x y z t u v r q0 q1 q2 :=
 ⟨s.a.other3 (by omega) _ _ _,s.b.other3 (by omega) _ _ _,s.p.store _ _ _,s.q.other3 (by omega) _ _ _,zAq s.below (by omega) _ _ _⟩
theorem W2.setQ {w W:World} {x y z t p0 p1 p2 q0 q1 q2:Value} (s:W2 w W x y z t p0 p1 p2 q0 q1 q2) (u v r:Value):W2 w (zAs W (w.heap.size+1+1+1) u v r) x y z t p0 p1 p2 u v r :=
 ⟨s.a.other3 (by omega) _ _ _,s.b.other3 (by omega) _ _ _,s.p.other3 (by omega) _ _ _,s.q.store _ _ _,zAq s.below (by omega) _ _ _⟩
theorem QOf.over {W:World} {g:Nat} {b:Bool} {a1 a2:Option Addr} {l1 c1 l2 c2:Nat} (h:FBox W g (.bool b) (.slice a1 l1 c1) (.slice a2 l2 c2)) (u v r:Value) {vv:Value} {x:Rat} {k:Nat}
  (hv:QOf W vv x k):QOf (zAs W g u v r) vv x k:=by
 obtain⟨b0,n,d,⟨s,t,e,h1,h1'⟩,h2⟩:=hv;exact⟨b0,n,d,⟨s,t,e,h.big _ _ _ h1,h.big _ _ _ h1'⟩,h2⟩
theorem readTwo_ok (n1 d1 n2 d2:ByteArray) (x y:Rat) (w:World) (h1:IsR n1 d1 x) (h2:IsR n2 d2 y) :
  Calls Tryz.prog 67 #[.agg #[.string n1,.string d1],.agg #[.string n2,.string d2]] w fun r w'=>∃v u,r=.returned (.tuple #[v,u,I 0])∧QOf w' v x 67∧QOf w' u y 67∧Bw w w':=by
 obtain⟨V,hV⟩:∃V,V=((((w.alloc (.cells #[.string n1,.string d1] 28)).alloc (.cells #[.string n2,.string d2] 28)).alloc (.cells #[.bool false,.slice none 0 0,.slice none 0 0] 82)).alloc (.cells #[.bool false,.slice none 0 0,.slice none 0 0] 82)):=⟨_,rfl⟩;have HS:Hid (W2 w V (.string n1) (.string d1) (.string n2) (.string d2) (.bool false) (.slice none 0 0) (.slice none 0 0) (.bool false) (.slice none 0 0) (.slice none 0 0)):=by rw[hV];exact W2.first _ _ _ _ _
 have HV:=zAb hV;have HR1:=zAb (fun W=>qread n1 d1 x W h1);have HR2:=zAb (fun W=>qread n2 d2 y W h2);clear h1 h2;go_enter Tryz.func67,Tryz.ntmps67
 go_upto_region 1 with fail
 rw[←un HV];clear hV HV;have t0:=(un HS).a.c0;have t1:=(un HS).a.c1
 go_upto_region 2 with (go_at_call 118;go_must(refine(un HR1 _).mono ?_;rintro e w1 ⟨v1,rfl,hv1,hb1⟩;obtain⟨b1,i1,i2,i3,i4,i5,i6,rfl⟩:=hv1.form;have HS1:=zAb ((un HS).later hb1);have HV1:=zAb hv1;clear hv1 hb1 t0 t1;have r0:=(un HS1).p.c0;have r1:=(un HS1).p.c1;have r2:=(un HS1).p.c2;have rf0:=(un HS1).p.f0;have rf1:=(un HS1).p.f1;have rf2:=(un HS1).p.f2))
 obtain⟨V2,hV2⟩:∃V2,V2=zAs w1 (w.heap.size+1+1) (.bool b1) (.slice i1 i2 i3) (.slice i4 i5 i6):=⟨_,rfl⟩;have hV2':V2=((w1.setCell ⟨w.heap.size+1+1,0,none⟩ (.bool b1)).setCell ⟨w.heap.size+1+1,1,none⟩ (.slice i1 i2 i3)).setCell ⟨w.heap.size+1+1,2,none⟩ (.slice i4 i5 i6):=hV2;have HS2:=zAb ((un HS1).setP (.bool b1) (.slice i1 i2 i3) (.slice i4 i5 i6));have HV2:=zAb ((un HV1).stored (un HS1).p);rw[←hV2]at HS2 HV2;rw[←hV2'];clear hV2 hV2' HS HS1 HV1 r0 r1 r2 rf0 rf1 rf2;have t0:=(un HS2).b.c0;have t1:=(un HS2).b.c1
 go_upto_region 3 with (go_at_call 118;go_must(refine(un HR2 _).mono ?_;rintro e w3 ⟨v3,rfl,hv3,hb3⟩;obtain⟨b3,j1,j2,j3,j4,j5,j6,rfl⟩:=hv3.form;have HS3:=zAb ((un HS2).later hb3);have HV3:=zAb hv3;have HU3:=zAb ((un HV2).later hb3);clear hv3 hb3 t0 t1;have r0:=(un HS3).q.c0;have r1:=(un HS3).q.c1;have r2:=(un HS3).q.c2;have rf0:=(un HS3).q.f0;have rf1:=(un HS3).q.f1;have rf2:=(un HS3).q.f2))
 obtain⟨V4,hV4⟩:∃V4,V4=zAs w3 (w.heap.size+1+1+1) (.bool b3) (.slice j1 j2 j3) (.slice j4 j5 j6):=⟨_,rfl⟩;have hV4':V4=((w3.setCell ⟨w.heap.size+1+1+1,0,none⟩ (.bool b3)).setCell ⟨w.heap.size+1+1+1,1,none⟩ (.slice j1 j2 j3)).setCell ⟨w.heap.size+1+1+1,2,none⟩ (.slice j4 j5 j6):=hV4;have HS4:=zAb ((un HS3).setQ (.bool b3) (.slice j1 j2 j3) (.slice j4 j5 j6));have HV4:=zAb ((un HV3).stored (un HS3).q);have HU4:=zAb (QOf.over (un HS3).q (.bool b3) (.slice j1 j2 j3) (.slice j4 j5 j6) (un HU3));rw[←hV4]at HS4 HV4 HU4;rw[←hV4'];clear hV4 hV4' HS2 HV2 HS3 HV3 HU3 r0 r1 r2 rf0 rf1 rf2
 go_upto_region 5 with fail
 have r0:=(un HS4).p.c0;have r1:=(un HS4).p.c1;have r2:=(un HS4).p.c2;have rf0:=(un HS4).p.f0;have rf1:=(un HS4).p.f1;have rf2:=(un HS4).p.f2;have s0:=(un HS4).q.c0;have s1:=(un HS4).q.c1;have s2:=(un HS4).q.c2;have sf0:=(un HS4).q.f0;have sf1:=(un HS4).q.f1;have sf2:=(un HS4).q.f2
 go_region
 obtain⟨V5,hV5⟩:∃V5,V5=(zAs (zAs V4 (w.heap.size+1+1) (.bool b1) (.slice i1 i2 i3) (.slice i4 i5 i6)) (w.heap.size+1+1+1) (.bool b3) (.slice j1 j2 j3) (.slice j4 j5 j6)).drew:=⟨_,rfl⟩;have hV5':V5=((((((V4.setCell ⟨w.heap.size+1+1,0,none⟩ (.bool b1)).setCell ⟨w.heap.size+1+1,1,none⟩ (.slice i1 i2 i3)).setCell ⟨w.heap.size+1+1,2,none⟩ (.slice i4 i5 i6)).setCell ⟨w.heap.size+1+1+1,0,none⟩ (.bool b3)).setCell ⟨w.heap.size+1+1+1,1,none⟩ (.slice j1 j2 j3)).setCell ⟨w.heap.size+1+1+1,2,none⟩ (.slice j4 j5 j6)).drew:=hV5;have hm:=(un HS4).setP (.bool b1) (.slice i1 i2 i3) (.slice i4 i5 i6);have HS5:=zAb ((hm.setQ (.bool b3) (.slice j1 j2 j3) (.slice j4 j5 j6)).later ((Below.refl _ _).drew));have HV5:=zAb ((QOf.over hm.q (.bool b3) (.slice j1 j2 j3) (.slice j4 j5 j6) (QOf.over (un HS4).p (.bool b1) (.slice i1 i2 i3) (.slice i4 i5 i6) (un HV4))).later ((Below.refl _ _).drew));have HU5:=zAb ((QOf.over hm.q (.bool b3) (.slice j1 j2 j3) (.slice j4 j5 j6) (QOf.over (un HS4).p (.bool b1) (.slice i1 i2 i3) (.slice i4 i5 i6) (un HU4))).later ((Below.refl _ _).drew));rw[←hV5]at HS5 HV5 HU5;rw[←hV5'];clear hV5 hV5' hm HS4 HV4 HU4 r0 r1 r2 rf0 rf1 rf2 s0 s1 s2 sf0 sf1 sf2;have r0:=(un HS5).p.c0;have r1:=(un HS5).p.c1;have r2:=(un HS5).p.c2;have s0:=(un HS5).q.c0;have s1:=(un HS5).q.c1;have s2:=(un HS5).q.c2
 go_wp2_with fail
 exact bodyPost_ret (v:=.tuple #[.agg #[.bool b1,.slice i1 i2 i3,.slice i4 i5 i6],.agg #[.bool b3,.slice j1 j2 j3,.slice j4 j5 j6],I 0]) (by simp[results,Tryz.results67,go_sem,r0,r1,r2,s0,s1,s2]) rfl ⟨_,_,rfl,un HU5,un HV5,(un HS5).below⟩
structure O3 (w W:World) (x y z t:Value):Prop where
 a:T2 W w.heap.size x y
 b:T2 W (w.heap.size+1) z t
 r:T2 W (w.heap.size+1+1) (G #[]) (G #[])
 below:Below w.heap.size w W
theorem O3.later {w W V:World} {x y z t:Value} (s:O3 w W x y z t) (hb:Below W.heap.size W V):O3 w V x y z t :=
 ⟨s.a.later hb,s.b.later hb,s.r.later hb,s.below.trans (hb.mono s.below.size)⟩
theorem O3.first (w:World) (x y z t:Value):O3 w (((w.alloc (.cells #[x,y] 28)).alloc (.cells #[z,t] 28)).alloc (.cells #[G #[],G #[]] 28)) x y z t :=
 ⟨⟨by simp[go_sem],by simp[go_sem],by simp[go_sem],by simp[go_sem]⟩,⟨by simp[go_sem],by simp[go_sem],by simp[go_sem],by simp[go_sem]⟩,⟨by simp[go_sem],by simp[go_sem],by simp[go_sem],by simp[go_sem]⟩,
  (bA.alloc (by simp) _).alloc (by simp;omega) _⟩
def Ans (f:Nat) (args:Array Value) (w:World) (s t:ByteArray) (e:Int):Prop :=
 Calls Tryz.prog f args w fun r w'=>r=.returned (.tuple #[.agg #[.string s,.string t],I e])∧Bw w w'
end Go.Proofs.YtliadckofhblnaaGreatDoor

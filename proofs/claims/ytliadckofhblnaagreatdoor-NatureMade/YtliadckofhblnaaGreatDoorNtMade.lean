/- value (29): a constant's value; NatureMade (10): what is made of what, zCt. -/
import Derived.Test.YtliadckofhblnaaGreatDoorLimb3
import Derived.Test.YtliadckofhblnaaGreatDoorNtSum
import Derived.Test.YtliadckofhblnaaGreatDoorNtAdd
import Derived.Test.YtliadckofhblnaaGreatDoorThou
import Derived.Deep.RegionHeld3
set_option maxHeartbeats 8000000
set_option maxRecDepth 100000
namespace Go.Proofs.YtliadckofhblnaaGreatDoor.Nt
open Go.RowKit
theorem zEh (s n d a0 a1 a4 a5 a6:ByteArray) (w:World) (hf:∀W,Below w.heap.size w W→Calls Tryz.prog 26 #[.string s] W fun r w'=>r=.returned (.tuple #[.agg #[.string a0,.string a1,.string n,.string d,.string a4,.string a5,.string a6],.bool true])∧Bw W w') :
    Calls Tryz.prog 29 #[.string s] w fun r w'=>r=.returned (.agg #[.string n,.string d])∧Bw w w':=by
  obtain⟨V,hV⟩:∃V,V=w.alloc (.cells #[.string ⟨#[]⟩,.string ⟨#[]⟩] 28):=⟨_,rfl⟩;have HR:Hid (T2 V w.heap.size (.string ⟨#[]⟩) (.string ⟨#[]⟩)):=by rw[hV];exact⟨by simp[go_sem],by simp[go_sem],by simp[go_sem],by simp[go_sem]⟩
  have HB:Hid (Bw w V):=by rw[hV];exact(Below.refl _ _).alloc (Nat.le_refl _) _
  have HV:=zAb hV;have HF:=zAb hf;clear hV hf;go_enter Tryz.func29,Tryz.ntmps29
  go_upto_region 2 with (go_at_call 26;go_must(rw[←un HV];refine(un HF _ (un HB)).mono ?_;rintro e W1 ⟨rfl,hb⟩;have HR1:=zAb ((un HR).later hb);have HB1:=zAb ((un HB).trans (hb.mono (un HB).size));clear hb))
  have hal:Below W1.heap.size W1 (W1.alloc (.cells #[.string a0,.string a1,.string n,.string d,.string a4,.string a5,.string a6] 45)):=(Below.refl _ _).alloc (Nat.le_refl _) _;have HX:Hid (zAc (W1.alloc (.cells #[.string a0,.string a1,.string n,.string d,.string a4,.string a5,.string a6] 45)) W1.heap.size 45 #[.string a0,.string a1,.string n,.string d,.string a4,.string a5,.string a6]):=zAc.new _ _ _;have HR2:=zAb ((un HR1).later hal);have HB2:=zAb ((un HB1).trans (hal.mono (un HB1).size));clear hal HR1 HB1 HR HB HV HF;generalize W1.alloc (.cells #[.string a0,.string a1,.string n,.string d,.string a4,.string a5,.string a6] 45)=V2 at *
  generalize W1.heap.size=g3 at *
  have c2:=(un HX).ub.c 2 _ rfl;have c3:=(un HX).ub.c 3 _ rfl;have r0:=(un HR2).c0;have r1:=(un HR2).c1;have f0:=(un HR2).f0;have f1:=(un HR2).f1
  go_wp2_with fail
  have hS:=(un HR2).store (.string n) (.string d);have hb:Below w.heap.size w (zBh V2 w.heap.size (.string n) (.string d)):=zAk (un HB2) (Nat.le_refl _) _ _;have u0:=hS.c0;have u1:=hS.c1;exact bodyPost_ret (v:=.agg #[.string n,.string d]) (w:=zBh V2 w.heap.size (.string n) (.string d)) (by simp[results,Tryz.results29,go_sem,u0,u1]) rfl ⟨rfl,hb⟩
theorem eqQn (a b c d:ByteArray) (h:¬a=c) (n:Nat) (w:World):(Op.equalIn (n+2) 28 (.agg #[.string a,.string b]) (.agg #[.string c,.string d])).run Tryz.prog w=.ok false w:=by
  rw[show n+2=(n+1)+1 from rfl,run_equalIn_struct w (n+1) 28 _ _ (by kernel_rfl) (by kernel_rfl)];obtain⟨f0,f1,hf,t0,o0,n0,t1,o1,n1⟩:=fieldsQ;rw[hf];have p0:∀(a b:ByteArray) (w:World),(part 9 #[.string a,.string b] 0).run Tryz.prog w=.ok (.string a) w:=fun _ _ _=>by kernel_rfl
  have e:=fun w a b=>run_equalIn_string (P:=Tryz.prog) w n 9 a b Tryz.underlying9
  simp only[Op.eqFields,n0,t0,o0,Sem.run_bind,p0,Result.andThen_ok,e,Sem.run_ite,Sem.run_pure,ne_eq,not_false_eq_true,if_true];have hne:¬a.toList=c.toList:=fun e=>h (zHi (beq_iff_eq.2 e))
  simp[hne]
theorem eqlQ_no (a b c d:ByteArray) (h:¬a=c) (w:World):(binOp .eql 28 (.agg #[.string a,.string b]) (.agg #[.string c,.string d])).run Tryz.prog w=.ok (.bool false) w:=by
  rw[run_eql_struct,show(10000:Nat)=9998+2 from rfl,eqQn a b c d h]
  rfl
theorem eqlQ_yes (a b:ByteArray) (w:World):(binOp .eql 28 (.agg #[.string a,.string b]) (.agg #[.string a,.string b])).run Tryz.prog w=.ok (.bool true) w:=by
  rw[run_eql_struct,show(10000:Nat)=9998+2 from rfl,eqQ]
  rfl
def wideN (k:Nat):Nat:=(if 5<k then 1 else 0)+(if 6<k then 1 else 0)+(if 12<k then 1 else 0)
def Wide (k:Nat) (x0 x4 x5:ByteArray):Prop :=
  ((x0.toList == [101,108,101,99,116,114,111,110])=false∧(x0.toList == [103,114,97,118,105,116,97,116,105,111,110])=false∧(x0.toList == [112,114,111,116,111,110])=false∧x4=⟨#[48]⟩∧x5=⟨#[49]⟩∧wideN (k+1)=wideN k)∨
  (¬x4=⟨#[48]⟩∧wideN (k+1)=wideN k+1∧((x0.toList == [101,108,101,99,116,114,111,110])=true∨((x0.toList == [101,108,101,99,116,114,111,110])=false∧(x0.toList == [103,114,97,118,105,116,97,116,105,111,110])=true)∨((x0.toList == [101,108,101,99,116,114,111,110])=false∧(x0.toList == [103,114,97,118,105,116,97,116,105,111,110])=false∧(x0.toList == [112,114,111,116,111,110])=true)))
theorem wide_step:∀k,k<13→∀x0 x1 x2 x3 x4 x5 x6:ByteArray,cT k=#[.string x0,.string x1,.string x2,.string x3,.string x4,.string x5,.string x6]→Wide k x0 x4 x5
  | 0,_,_,_,_,_,_,_,_,h=>by
    injection h with h
    simp only[List.cons.injEq,Value.string.injEq]at h;obtain⟨rfl,rfl,rfl,rfl,rfl,rfl,rfl,_⟩:=h;exact Or.inl ⟨by decide +kernel,by decide +kernel,by decide +kernel,rfl,rfl,by decide +kernel⟩
  | 1,_,_,_,_,_,_,_,_,h=>by
    injection h with h
    simp only[List.cons.injEq,Value.string.injEq]at h;obtain⟨rfl,rfl,rfl,rfl,rfl,rfl,rfl,_⟩:=h;exact Or.inl ⟨by decide +kernel,by decide +kernel,by decide +kernel,rfl,rfl,by decide +kernel⟩
  | 2,_,_,_,_,_,_,_,_,h=>by
    injection h with h
    simp only[List.cons.injEq,Value.string.injEq]at h;obtain⟨rfl,rfl,rfl,rfl,rfl,rfl,rfl,_⟩:=h;exact Or.inl ⟨by decide +kernel,by decide +kernel,by decide +kernel,rfl,rfl,by decide +kernel⟩
  | 3,_,_,_,_,_,_,_,_,h=>by
    injection h with h
    simp only[List.cons.injEq,Value.string.injEq]at h;obtain⟨rfl,rfl,rfl,rfl,rfl,rfl,rfl,_⟩:=h;exact Or.inl ⟨by decide +kernel,by decide +kernel,by decide +kernel,rfl,rfl,by decide +kernel⟩
  | 4,_,_,_,_,_,_,_,_,h=>by
    injection h with h
    simp only[List.cons.injEq,Value.string.injEq]at h;obtain⟨rfl,rfl,rfl,rfl,rfl,rfl,rfl,_⟩:=h;exact Or.inl ⟨by decide +kernel,by decide +kernel,by decide +kernel,rfl,rfl,by decide +kernel⟩
  | 5,_,_,_,_,_,_,_,_,h=>by
    injection h with h
    simp only[List.cons.injEq,Value.string.injEq]at h;obtain⟨rfl,rfl,rfl,rfl,rfl,rfl,rfl,_⟩:=h;exact Or.inr ⟨by decide +kernel,by decide +kernel,Or.inl (by decide +kernel)⟩
  | 6,_,_,_,_,_,_,_,_,h=>by
    injection h with h
    simp only[List.cons.injEq,Value.string.injEq]at h;obtain⟨rfl,rfl,rfl,rfl,rfl,rfl,rfl,_⟩:=h;exact Or.inr ⟨by decide +kernel,by decide +kernel,Or.inr (Or.inl ⟨by decide +kernel,by decide +kernel⟩)⟩
  | 7,_,_,_,_,_,_,_,_,h=>by
    injection h with h
    simp only[List.cons.injEq,Value.string.injEq]at h;obtain⟨rfl,rfl,rfl,rfl,rfl,rfl,rfl,_⟩:=h;exact Or.inl ⟨by decide +kernel,by decide +kernel,by decide +kernel,rfl,rfl,by decide +kernel⟩
  | 8,_,_,_,_,_,_,_,_,h=>by
    injection h with h
    simp only[List.cons.injEq,Value.string.injEq]at h;obtain⟨rfl,rfl,rfl,rfl,rfl,rfl,rfl,_⟩:=h;exact Or.inl ⟨by decide +kernel,by decide +kernel,by decide +kernel,rfl,rfl,by decide +kernel⟩
  | 9,_,_,_,_,_,_,_,_,h=>by
    injection h with h
    simp only[List.cons.injEq,Value.string.injEq]at h;obtain⟨rfl,rfl,rfl,rfl,rfl,rfl,rfl,_⟩:=h;exact Or.inl ⟨by decide +kernel,by decide +kernel,by decide +kernel,rfl,rfl,by decide +kernel⟩
  | 10,_,_,_,_,_,_,_,_,h=>by
    injection h with h
    simp only[List.cons.injEq,Value.string.injEq]at h;obtain⟨rfl,rfl,rfl,rfl,rfl,rfl,rfl,_⟩:=h;exact Or.inl ⟨by decide +kernel,by decide +kernel,by decide +kernel,rfl,rfl,by decide +kernel⟩
  | 11,_,_,_,_,_,_,_,_,h=>by
    injection h with h
    simp only[List.cons.injEq,Value.string.injEq]at h;obtain⟨rfl,rfl,rfl,rfl,rfl,rfl,rfl,_⟩:=h;exact Or.inl ⟨by decide +kernel,by decide +kernel,by decide +kernel,rfl,rfl,by decide +kernel⟩
  | 12,_,_,_,_,_,_,_,_,h=>by
    injection h with h
    simp only[List.cons.injEq,Value.string.injEq]at h;obtain⟨rfl,rfl,rfl,rfl,rfl,rfl,rfl,_⟩:=h;exact Or.inr ⟨by decide +kernel,by decide +kernel,Or.inr (Or.inr ⟨by decide +kernel,by decide +kernel,by decide +kernel⟩)⟩
  | _+13,h,_,_,_,_,_,_,_,_=>absurd h (by omega)
theorem neqQ (fn fd:ByteArray) (w:World):(binOp .neq 28 (.agg #[.string fn,.string fd]) (.agg #[.string fn,.string fd])).run Tryz.prog w=.ok (.bool false) w:=by
  rw[run_neq_struct,show(10000:Nat)=9998+2 from rfl,eqQ]
  rfl
theorem made_core (bN bD aN aD cN cD pN pD gN gD fN fD jN jD kN kD tN tD oN oD:ByteArray) (w:World)
    (vb:∀W,Below w.heap.size w W→Calls Tryz.prog 29 #[.string ⟨#[98,111,108,116,122,109,97,110,110]⟩] W fun r w'=>r=.returned (.agg #[.string bN,.string bD])∧Bw W w')
    (va:∀W,Below w.heap.size w W→Calls Tryz.prog 29 #[.string ⟨#[97,118,111,103,97,100,114,111]⟩] W fun r w'=>r=.returned (.agg #[.string aN,.string aD])∧Bw W w')
    (vc:∀W,Below w.heap.size w W→Calls Tryz.prog 29 #[.string ⟨#[99,104,97,114,103,101]⟩] W fun r w'=>r=.returned (.agg #[.string cN,.string cD])∧Bw W w')
    (vp:∀W,Below w.heap.size w W→Calls Tryz.prog 29 #[.string ⟨#[112,108,97,110,99,107]⟩] W fun r w'=>r=.returned (.agg #[.string pN,.string pD])∧Bw W w')
    (vg:∀W,Below w.heap.size w W→Calls Tryz.prog 29 #[.string ⟨#[103,97,115]⟩] W fun r w'=>r=.returned (.agg #[.string gN,.string gD])∧Bw W w')
    (vf:∀W,Below w.heap.size w W→Calls Tryz.prog 29 #[.string ⟨#[102,97,114,97,100,97,121]⟩] W fun r w'=>r=.returned (.agg #[.string fN,.string fD])∧Bw W w')
    (vj:∀W,Below w.heap.size w W→Calls Tryz.prog 29 #[.string ⟨#[106,111,115,101,112,104,115,111,110]⟩] W fun r w'=>r=.returned (.agg #[.string jN,.string jD])∧Bw W w')
    (vk:∀W,Below w.heap.size w W→Calls Tryz.prog 29 #[.string ⟨#[107,108,105,116,122,105,110,103]⟩] W fun r w'=>r=.returned (.agg #[.string kN,.string kD])∧Bw W w')
    (m1:∀W,Below w.heap.size w W→Calls Tryz.prog 28 #[.agg #[.string bN,.string bD],.agg #[.string aN,.string aD]] W fun r w'=>r=.returned (.tuple #[.agg #[.string gN,.string gD],I 0])∧Bw W w')
    (m2:∀W,Below w.heap.size w W→Calls Tryz.prog 28 #[.agg #[.string cN,.string cD],.agg #[.string aN,.string aD]] W fun r w'=>r=.returned (.tuple #[.agg #[.string fN,.string fD],I 0])∧Bw W w')
    (a1:∀W,Below w.heap.size w W→Calls Tryz.prog 30 #[.agg #[.string cN,.string cD],.agg #[.string cN,.string cD]] W fun r w'=>r=.returned (.tuple #[.agg #[.string tN,.string tD],I 0])∧Bw W w')
    (q1:∀W,Below w.heap.size w W→Calls Tryz.prog 31 #[.agg #[.string tN,.string tD],.agg #[.string pN,.string pD]] W fun r w'=>r=.returned (.tuple #[.agg #[.string jN,.string jD],I 0])∧Bw W w')
    (q2:∀W,Below w.heap.size w W→Calls Tryz.prog 31 #[.agg #[.string pN,.string pD],.agg #[.string cN,.string cD]] W fun r w'=>r=.returned (.tuple #[.agg #[.string oN,.string oD],I 0])∧Bw W w')
    (q3:∀W,Below w.heap.size w W→Calls Tryz.prog 31 #[.agg #[.string oN,.string oD],.agg #[.string cN,.string cD]] W fun r w'=>r=.returned (.tuple #[.agg #[.string kN,.string kD],I 0])∧Bw W w')
    (vall:∀W,Below w.heap.size w W→Calls Tryz.prog 23 #[] W fun e w'=>∃v,e=.returned v∧w'.ownsRow W.heap.size 45 7 v 13 (zHq (usC 13) 13)∧Bw W w')
    : Calls Tryz.prog 10 #[] w fun r w'=>r=.returned (.bool true)∧Bw w w':=by
  have VB:=zAb vb;have VA:=zAb va;have VC:=zAb vc;have VP:=zAb vp;have VG:=zAb vg;have VF:=zAb vf;have VJ:=zAb vj;have VK:=zAb vk;have M1:=zAb m1;have M2:=zAb m2;have A1:=zAb a1;have Q1:=zAb q1;have Q2:=zAb q2;have Q3:=zAb q3;have VALL:=zAb vall;clear vb va vc vp vg vf vj vk m1 m2 a1 q1 q2 q3 vall;have HB0:Hid (Bw w w):=Below.refl _ _;go_enter Tryz.func10,Tryz.ntmps10
  go_wp2_with fail
  refine(un VB _ (un HB0)).mono ?_;rintro e W1 ⟨rfl,hb⟩;have HB1:=zAb ((un HB0).trans (hb.mono (un HB0).size));clear hb HB0
  go_wp2_with fail
  refine(un VA _ (un HB1)).mono ?_;rintro e W2 ⟨rfl,hb⟩;have HB2:=zAb ((un HB1).trans (hb.mono (un HB1).size));clear hb HB1
  go_wp2_with fail
  refine(un M1 _ (un HB2)).mono ?_;rintro e W3 ⟨rfl,hb⟩;have HB3:=zAb ((un HB2).trans (hb.mono (un HB2).size));clear hb HB2
  go_upto_region 2 with fail
  have hal:Below W3.heap.size W3 (W3.alloc (.cells #[.string gN,.string gD] 28)):=(Below.refl _ _).alloc (Nat.le_refl _) _;have BG4:Hid (T2 (W3.alloc (.cells #[.string gN,.string gD] 28)) W3.heap.size (.string gN) (.string gD)):=⟨by simp[go_sem],by simp[go_sem],by simp[go_sem],by simp[go_sem]⟩;have HB4:=zAb ((un HB3).trans (hal.mono (un HB3).size));clear hal HB3;generalize W3.alloc (.cells #[.string gN,.string gD] 28)=U4 at *
  generalize W3.heap.size=gBG at *
  go_wp2_with fail
  refine(un VC _ (un HB4)).mono ?_;rintro e W5 ⟨rfl,hb⟩;have HB5:=zAb ((un HB4).trans (hb.mono (un HB4).size));have BG5:=zAb ((un BG4).later hb);clear hb HB4 BG4
  go_wp2_with fail
  refine(un VA _ (un HB5)).mono ?_;rintro e W6 ⟨rfl,hb⟩;have HB6:=zAb ((un HB5).trans (hb.mono (un HB5).size));have BG6:=zAb ((un BG5).later hb);clear hb HB5 BG5
  go_wp2_with fail
  refine(un M2 _ (un HB6)).mono ?_;rintro e W7 ⟨rfl,hb⟩;have HB7:=zAb ((un HB6).trans (hb.mono (un HB6).size));have BG7:=zAb ((un BG6).later hb);clear hb HB6 BG6
  go_upto_region 3 with fail
  have hal:Below W7.heap.size W7 (W7.alloc (.cells #[.string fN,.string fD] 28)):=(Below.refl _ _).alloc (Nat.le_refl _) _;have BF8:Hid (T2 (W7.alloc (.cells #[.string fN,.string fD] 28)) W7.heap.size (.string fN) (.string fD)):=⟨by simp[go_sem],by simp[go_sem],by simp[go_sem],by simp[go_sem]⟩;have HB8:=zAb ((un HB7).trans (hal.mono (un HB7).size));have BG8:=zAb ((un BG7).later hal);clear hal HB7 BG7;generalize W7.alloc (.cells #[.string fN,.string fD] 28)=U8 at *
  generalize W7.heap.size=gBF at *
  go_wp2_with fail
  refine(un VC _ (un HB8)).mono ?_;rintro e W9 ⟨rfl,hb⟩;have HB9:=zAb ((un HB8).trans (hb.mono (un HB8).size));have BG9:=zAb ((un BG8).later hb);have BF9:=zAb ((un BF8).later hb);clear hb HB8 BG8 BF8
  go_wp2_with fail
  refine(un VC _ (un HB9)).mono ?_;rintro e W10 ⟨rfl,hb⟩;have HB10:=zAb ((un HB9).trans (hb.mono (un HB9).size));have BG10:=zAb ((un BG9).later hb);have BF10:=zAb ((un BF9).later hb);clear hb HB9 BG9 BF9
  go_wp2_with fail
  refine(un A1 _ (un HB10)).mono ?_;rintro e W11 ⟨rfl,hb⟩;have HB11:=zAb ((un HB10).trans (hb.mono (un HB10).size));have BG11:=zAb ((un BG10).later hb);have BF11:=zAb ((un BF10).later hb);clear hb HB10 BG10 BF10
  go_upto_region 4 with fail
  have hal:Below W11.heap.size W11 (W11.alloc (.cells #[.string tN,.string tD] 28)):=(Below.refl _ _).alloc (Nat.le_refl _) _;have BT12:Hid (T2 (W11.alloc (.cells #[.string tN,.string tD] 28)) W11.heap.size (.string tN) (.string tD)):=⟨by simp[go_sem],by simp[go_sem],by simp[go_sem],by simp[go_sem]⟩;have HB12:=zAb ((un HB11).trans (hal.mono (un HB11).size));have BG12:=zAb ((un BG11).later hal);have BF12:=zAb ((un BF11).later hal);clear hal HB11 BG11 BF11;generalize W11.alloc (.cells #[.string tN,.string tD] 28)=U12 at *
  generalize W11.heap.size=gBT at *
  go_cut [7,8]from 36 (fun s9 s10 wx=>∃g,s9=.pointer (some ⟨g,0,none⟩)∧s10=I 0∧Hid (T2 wx g (.string jN) (.string jD)∧Bw U12 wx))
  case first=>
    have t00:=(un BT12).c0;have t01:=(un BT12).c1;have HC0:Hid (Bw U12 U12.drew):=(Below.refl _ _).drew;have HUP:Hid (∀W,Below U12.heap.size U12 W→Below w.heap.size w W):=fun W h=>(un HB12).trans (h.mono (un HB12).size)
    have HUA:Hid (∀W O,Below U12.heap.size U12 W→Below w.heap.size w (W.alloc O)):=fun W O h=>(un HB12).trans ((h.alloc h.size O).mono (un HB12).size)
    have HUD:Hid (∀O,Below w.heap.size w (U12.alloc O).drew):=fun O=>((un HB12).alloc (un HB12).size O).drew
    have hv0:=(un BT12).lt
    go_region_held3 (fun w'=>w'.cell? ⟨gBT,0,none⟩=some (.string tN)∧w'.cell? ⟨gBT,1,none⟩=some (.string tD)) (first|assumption|(simp[go_sem, *];done)) ((first
      | (go_at_call 31;refine(un Q1 _ (by first|exact un HUP _ (un HCwa)|exact un HUA _ _ (un HCwa))).mono ?_;rintro e wb ⟨rfl,hb⟩;have HCwb:Hid (Bw U12 wb):=(by first|exact(un HCwa).trans (hb.mono (un HCwa).size)|exact zCs (un HCwa) hb);(first|(have HZwb:=zAb ((un HZwa).later hb);clear u0 u1 uf0 uf1;have u0:=(un HZwb).c0;have u1:=(un HZwb).c1;have uf0:=(un HZwb).f0;have uf1:=(un HZwb).f1)|(have HZwb:Hid (T2 wb wa.heap.size (.string ⟨#[]⟩) (.string ⟨#[]⟩)):=(by first|exact T2.past hb|exact T2.pastD hb);have u0:=(un HZwb).c0;have u1:=(un HZwb).c1;have uf0:=(un HZwb).f0;have uf1:=(un HZwb).f1)|skip);clear hb t00 t01;have t00:=((un BT12).later (un HCwb)).c0;have t01:=((un BT12).later (un HCwb)).c1;have hv0wb:=((un BT12).later (un HCwb)).lt)
      | (go_at_call 29;refine(un VP _ (by first|exact un HUP _ (un HC0)|exact un HUA _ _ (un HC0)|exact un HUD _)).mono ?_;rintro e wa ⟨rfl,hb⟩;have HCwa:Hid (Bw U12 wa):=(by first|exact(un HC0).trans (hb.mono (un HC0).size)|exact zCs (un HC0) hb|exact zBw hb);(first|(have HZwa:=zAb ((un HZ0).later hb);clear u0 u1 uf0 uf1;have u0:=(un HZwa).c0;have u1:=(un HZwa).c1;have uf0:=(un HZwa).f0;have uf1:=(un HZwa).f1)|(have HZwa:Hid (T2 wa U12.heap.size (.string ⟨#[]⟩) (.string ⟨#[]⟩)):=(by first|exact T2.past hb|exact T2.pastD hb);have u0:=(un HZwa).c0;have u1:=(un HZwa).c1;have uf0:=(un HZwa).f0;have uf1:=(un HZwa).f1)|skip);clear hb t00 t01;have t00:=((un BT12).later (un HCwa)).c0;have t01:=((un BT12).later (un HCwa)).c1;have hv0wa:=((un BT12).later (un HCwa)).lt)))
    all_goals
      first
      | (obtain⟨X,hX⟩:∃X,X=wb.heap.size:=⟨_,rfl⟩
         obtain⟨U,hU⟩:∃U,U=wb.alloc (.cells #[.string jN,.string jD] 28):=⟨_,rfl⟩
         have HF:Hid (T2 U X (.string jN) (.string jD)∧Bw U12 U):=by
           rw[hU,hX];exact⟨⟨by simp[go_sem],by simp[go_sem],by simp[go_sem],by simp[go_sem]⟩,(un HCwb).alloc (un HCwb).size _⟩
         rw[←hU,←hX];clear hU hX)
      | (obtain⟨X,hX⟩:∃X,X=wa.heap.size:=⟨_,rfl⟩
         obtain⟨U,hU⟩:∃U,U=((wb.setCell { block:=wa.heap.size,off:=0 } (.string jN)).setCell { block:=wa.heap.size,off:=1 } (.string jD)):=⟨_,rfl⟩
         have HF:Hid (T2 U X (.string jN) (.string jD)∧Bw U12 U):=by
           rw[hU,hX];exact⟨(un HZwb).store _ _ ,zAk (un HCwb) ((un HCwa).size) _ _ ⟩
         rw[←hU,←hX];clear hU hX)
      | (obtain⟨X,hX⟩:∃X,X=U12.heap.size:=⟨_,rfl⟩
         obtain⟨U,hU⟩:∃U,U=((wb.setCell { block:=U12.heap.size,off:=0 } (.string jN)).setCell { block:=U12.heap.size,off:=1 } (.string jD)):=⟨_,rfl⟩
         have HF:Hid (T2 U X (.string jN) (.string jD)∧Bw U12 U):=by
           rw[hU,hX];exact⟨(un HZwb).store _ _ ,zAk (un HCwb) (Nat.le_refl _) _ _ ⟩
         rw[←hU,←hX];clear hU hX)
    all_goals
      clear t00 t01
      go_wp2_with fail
      go_meet
      exact⟨X,rfl,rfl,un HF⟩
  case rest =>
    obtain⟨gU13,rfl,rfl,HTU13⟩:=hcut;generalize wc=U13 at HTU13 ⊢
    have HB13:=zAb ((un HB12).trans (((un HTU13).2).mono (un HB12).size));have BG13:=zAb ((un BG12).later (un HTU13).2);have BF13:=zAb ((un BF12).later (un HTU13).2);have BT13:=zAb ((un BT12).later (un HTU13).2);have BJ13:=zAb (un HTU13).1;clear HB12 HTU13 BG12 BF12 BT12
    go_wp2_with fail
    refine(un VP _ (un HB13)).mono ?_;rintro e W14 ⟨rfl,hb⟩;have HB14:=zAb ((un HB13).trans (hb.mono (un HB13).size));have BG14:=zAb ((un BG13).later hb);have BF14:=zAb ((un BF13).later hb);have BT14:=zAb ((un BT13).later hb);have BJ14:=zAb ((un BJ13).later hb);clear hb HB13 BG13 BF13 BT13 BJ13
    go_wp2_with fail
    refine(un VC _ (un HB14)).mono ?_;rintro e W15 ⟨rfl,hb⟩;have HB15:=zAb ((un HB14).trans (hb.mono (un HB14).size));have BG15:=zAb ((un BG14).later hb);have BF15:=zAb ((un BF14).later hb);have BT15:=zAb ((un BT14).later hb);have BJ15:=zAb ((un BJ14).later hb);clear hb HB14 BG14 BF14 BT14 BJ14
    go_wp2_with fail
    refine(un Q2 _ (un HB15)).mono ?_;rintro e W16 ⟨rfl,hb⟩;have HB16:=zAb ((un HB15).trans (hb.mono (un HB15).size));have BG16:=zAb ((un BG15).later hb);have BF16:=zAb ((un BF15).later hb);have BT16:=zAb ((un BT15).later hb);have BJ16:=zAb ((un BJ15).later hb);clear hb HB15 BG15 BF15 BT15 BJ15
    go_upto_region 6 with fail
    have hal:Below W16.heap.size W16 (W16.alloc (.cells #[.string oN,.string oD] 28)):=(Below.refl _ _).alloc (Nat.le_refl _) _;have BO17:Hid (T2 (W16.alloc (.cells #[.string oN,.string oD] 28)) W16.heap.size (.string oN) (.string oD)):=⟨by simp[go_sem],by simp[go_sem],by simp[go_sem],by simp[go_sem]⟩;have HB17:=zAb ((un HB16).trans (hal.mono (un HB16).size));have BG17:=zAb ((un BG16).later hal);have BF17:=zAb ((un BF16).later hal);have BT17:=zAb ((un BT16).later hal);have BJ17:=zAb ((un BJ16).later hal);clear hal HB16 BG16 BF16 BT16 BJ16;generalize W16.alloc (.cells #[.string oN,.string oD] 28)=U17 at *
    generalize W16.heap.size=gBO at *
    go_cut [11,12]from 48 (fun s9 s10 wx=>∃g,s9=.pointer (some ⟨g,0,none⟩)∧s10=I 0∧Hid (T2 wx g (.string kN) (.string kD)∧Bw U17 wx))
    case first=>
      have t00:=(un BO17).c0;have t01:=(un BO17).c1;have HC0:Hid (Bw U17 U17.drew):=(Below.refl _ _).drew;have HUP:Hid (∀W,Below U17.heap.size U17 W→Below w.heap.size w W):=fun W h=>(un HB17).trans (h.mono (un HB17).size)
      have HUA:Hid (∀W O,Below U17.heap.size U17 W→Below w.heap.size w (W.alloc O)):=fun W O h=>(un HB17).trans ((h.alloc h.size O).mono (un HB17).size)
      have HUD:Hid (∀O,Below w.heap.size w (U17.alloc O).drew):=fun O=>((un HB17).alloc (un HB17).size O).drew
      have hv0:=(un BO17).lt
      go_region_held3 (fun w'=>w'.cell? ⟨gBO,0,none⟩=some (.string oN)∧w'.cell? ⟨gBO,1,none⟩=some (.string oD)) (first|assumption|(simp[go_sem, *];done)) ((first
        | (go_at_call 31;refine(un Q3 _ (by first|exact un HUP _ (un HCwa)|exact un HUA _ _ (un HCwa))).mono ?_;rintro e wb ⟨rfl,hb⟩;have HCwb:Hid (Bw U17 wb):=(by first|exact(un HCwa).trans (hb.mono (un HCwa).size)|exact zCs (un HCwa) hb);(first|(have HZwb:=zAb ((un HZwa).later hb);clear u0 u1 uf0 uf1;have u0:=(un HZwb).c0;have u1:=(un HZwb).c1;have uf0:=(un HZwb).f0;have uf1:=(un HZwb).f1)|(have HZwb:Hid (T2 wb wa.heap.size (.string ⟨#[]⟩) (.string ⟨#[]⟩)):=(by first|exact T2.past hb|exact T2.pastD hb);have u0:=(un HZwb).c0;have u1:=(un HZwb).c1;have uf0:=(un HZwb).f0;have uf1:=(un HZwb).f1)|skip);clear hb t00 t01;have t00:=((un BO17).later (un HCwb)).c0;have t01:=((un BO17).later (un HCwb)).c1;have hv0wb:=((un BO17).later (un HCwb)).lt)
        | (go_at_call 29;refine(un VC _ (by first|exact un HUP _ (un HC0)|exact un HUA _ _ (un HC0)|exact un HUD _)).mono ?_;rintro e wa ⟨rfl,hb⟩;have HCwa:Hid (Bw U17 wa):=(by first|exact(un HC0).trans (hb.mono (un HC0).size)|exact zCs (un HC0) hb|exact zBw hb);(first|(have HZwa:=zAb ((un HZ0).later hb);clear u0 u1 uf0 uf1;have u0:=(un HZwa).c0;have u1:=(un HZwa).c1;have uf0:=(un HZwa).f0;have uf1:=(un HZwa).f1)|(have HZwa:Hid (T2 wa U17.heap.size (.string ⟨#[]⟩) (.string ⟨#[]⟩)):=(by first|exact T2.past hb|exact T2.pastD hb);have u0:=(un HZwa).c0;have u1:=(un HZwa).c1;have uf0:=(un HZwa).f0;have uf1:=(un HZwa).f1)|skip);clear hb t00 t01;have t00:=((un BO17).later (un HCwa)).c0;have t01:=((un BO17).later (un HCwa)).c1;have hv0wa:=((un BO17).later (un HCwa)).lt)))
      all_goals
        first
        | (obtain⟨X,hX⟩:∃X,X=wb.heap.size:=⟨_,rfl⟩
           obtain⟨U,hU⟩:∃U,U=wb.alloc (.cells #[.string kN,.string kD] 28):=⟨_,rfl⟩
           have HF:Hid (T2 U X (.string kN) (.string kD)∧Bw U17 U):=by
             rw[hU,hX];exact⟨⟨by simp[go_sem],by simp[go_sem],by simp[go_sem],by simp[go_sem]⟩,(un HCwb).alloc (un HCwb).size _⟩
           rw[←hU,←hX];clear hU hX)
        | (obtain⟨X,hX⟩:∃X,X=wa.heap.size:=⟨_,rfl⟩
           obtain⟨U,hU⟩:∃U,U=((wb.setCell { block:=wa.heap.size,off:=0 } (.string kN)).setCell { block:=wa.heap.size,off:=1 } (.string kD)):=⟨_,rfl⟩
           have HF:Hid (T2 U X (.string kN) (.string kD)∧Bw U17 U):=by
             rw[hU,hX];exact⟨(un HZwb).store _ _ ,zAk (un HCwb) ((un HCwa).size) _ _ ⟩
           rw[←hU,←hX];clear hU hX)
        | (obtain⟨X,hX⟩:∃X,X=U17.heap.size:=⟨_,rfl⟩
           obtain⟨U,hU⟩:∃U,U=((wb.setCell { block:=U17.heap.size,off:=0 } (.string kN)).setCell { block:=U17.heap.size,off:=1 } (.string kD)):=⟨_,rfl⟩
           have HF:Hid (T2 U X (.string kN) (.string kD)∧Bw U17 U):=by
             rw[hU,hX];exact⟨(un HZwb).store _ _ ,zAk (un HCwb) (Nat.le_refl _) _ _ ⟩
           rw[←hU,←hX];clear hU hX)
      all_goals
        clear t00 t01
        go_wp2_with fail
        go_meet
        exact⟨X,rfl,rfl,un HF⟩
    case rest =>
      obtain⟨gU18,rfl,rfl,HTU18⟩:=hcut;generalize wc=U18 at HTU18 ⊢
      have HB18:=zAb ((un HB17).trans (((un HTU18).2).mono (un HB17).size));have BG18:=zAb ((un BG17).later (un HTU18).2);have BF18:=zAb ((un BF17).later (un HTU18).2);have BT18:=zAb ((un BT17).later (un HTU18).2);have BJ18:=zAb ((un BJ17).later (un HTU18).2);have BO18:=zAb ((un BO17).later (un HTU18).2);have BK18:=zAb (un HTU18).1;clear HB17 HTU18 BG17 BF17 BT17 BJ17 BO17
      go_upto_region 9 with fail
      have q0:∀xz:zBy U18,xz.world.cell? ⟨gBG,0,none⟩=some (.string gN):=fun xz=>((un BG18).later xz.below).c0
      have q1:∀xz:zBy U18,xz.world.cell? ⟨gBG,1,none⟩=some (.string gD):=fun xz=>((un BG18).later xz.below).c1
      have n0:∀xz:zBy U18,(binOp .neq 28 (.agg #[.string gN,.string gD]) (.agg #[.string gN,.string gD])).run Tryz.prog xz.world=.ok (.bool false) xz.world:=fun xz=>neqQ _ _ _
      have q2:∀xz:zBy U18,xz.world.cell? ⟨gBF,0,none⟩=some (.string fN):=fun xz=>((un BF18).later xz.below).c0
      have q3:∀xz:zBy U18,xz.world.cell? ⟨gBF,1,none⟩=some (.string fD):=fun xz=>((un BF18).later xz.below).c1
      have n2:∀xz:zBy U18,(binOp .neq 28 (.agg #[.string fN,.string fD]) (.agg #[.string fN,.string fD])).run Tryz.prog xz.world=.ok (.bool false) xz.world:=fun xz=>neqQ _ _ _
      have q4:∀xz:zBy U18,xz.world.cell? ⟨gU13,0,none⟩=some (.string jN):=fun xz=>((un BJ18).later xz.below).c0
      have q5:∀xz:zBy U18,xz.world.cell? ⟨gU13,1,none⟩=some (.string jD):=fun xz=>((un BJ18).later xz.below).c1
      have n4:∀xz:zBy U18,(binOp .neq 28 (.agg #[.string jN,.string jD]) (.agg #[.string jN,.string jD])).run Tryz.prog xz.world=.ok (.bool false) xz.world:=fun xz=>neqQ _ _ _
      have q6:∀xz:zBy U18,xz.world.cell? ⟨gU18,0,none⟩=some (.string kN):=fun xz=>((un BK18).later xz.below).c0
      have q7:∀xz:zBy U18,xz.world.cell? ⟨gU18,1,none⟩=some (.string kD):=fun xz=>((un BK18).later xz.below).c1
      have n6:∀xz:zBy U18,(binOp .neq 28 (.agg #[.string kN,.string kD]) (.agg #[.string kN,.string kD])).run Tryz.prog xz.world=.ok (.bool false) xz.world:=fun xz=>neqQ _ _ _
      have HLW:Hid (∀xz:zBy U18,Below w.heap.size w xz.world):=fun xz=>(un HB18).trans (xz.below.mono (un HB18).size)
      refine zCz (by kernel_rfl) (by kernel_rfl) ?_
      repeat (go_big_quiet_step (first
        | (go_at_call_of 29 (Value.string ⟨#[103,97,115]⟩);rename_i xx;refine(un VG xx.world (un HLW xx)).mono ?_;rintro e w9 ⟨rfl,hb9⟩;have hz:=xx.below.trans (hb9.mono xx.below.size);first|exact⟨rfl,⟨w9,hz⟩,rfl⟩|exact⟨rfl,hz⟩|exact⟨rfl,w9,hz,rfl⟩)
        | (go_at_call_of 29 (Value.string ⟨#[102,97,114,97,100,97,121]⟩);rename_i xx;refine(un VF xx.world (un HLW xx)).mono ?_;rintro e w9 ⟨rfl,hb9⟩;have hz:=xx.below.trans (hb9.mono xx.below.size);first|exact⟨rfl,⟨w9,hz⟩,rfl⟩|exact⟨rfl,hz⟩|exact⟨rfl,w9,hz,rfl⟩)
        | (go_at_call_of 29 (Value.string ⟨#[106,111,115,101,112,104,115,111,110]⟩);rename_i xx;refine(un VJ xx.world (un HLW xx)).mono ?_;rintro e w9 ⟨rfl,hb9⟩;have hz:=xx.below.trans (hb9.mono xx.below.size);first|exact⟨rfl,⟨w9,hz⟩,rfl⟩|exact⟨rfl,hz⟩|exact⟨rfl,w9,hz,rfl⟩)
        | (go_at_call_of 29 (Value.string ⟨#[107,108,105,116,122,105,110,103]⟩);rename_i xx;refine(un VK xx.world (un HLW xx)).mono ?_;rintro e w9 ⟨rfl,hb9⟩;have hz:=xx.below.trans (hb9.mono xx.below.size);first|exact⟨rfl,⟨w9,hz⟩,rfl⟩|exact⟨rfl,hz⟩|exact⟨rfl,w9,hz,rfl⟩)))
      refine wpQuiet_nil ?_;intro _ hw';obtain⟨xz,hw''⟩:=hw';subst hw'';have HBZ:=zAb (un HLW xz);obtain⟨G,hG⟩:∃G,G=xz.world:=⟨_,rfl⟩;rw[←hG]at HBZ ⊢;clear HLW hG q0 q1 q2 q3 q4 q5 q6 q7 n0 n2 n4 n6
      go_upto_region 12 with (go_at_call 23;go_must(refine(un VALL _ (un HBZ)).mono ?_;rintro e wa ⟨va,rfl,hoa,hba⟩;obtain⟨gwa,cwa,rfl,hga0,hga1,hfa,_⟩:=own_consts hoa;have HBA:=zAb ((un HBZ).trans (hba.mono (un HBZ).size));have HFA:=zAb hfa;have HGA:=zAb hga1;clear hba hfa hga0 hga1 hoa))
      go_wp2_with fail
      go_loopw [14,15] (fun s14 s15 wr=>∃(k:Nat),k≤13∧s15=I (k:Int)∧s14=I (wideN k:Int)∧Hid (Bw wa wr)) (fun _ s15 _=>13 - (intOf s15).toNat)
      case atStart=>exact⟨0,by omega,rfl,rfl,Below.refl _ _⟩
      case round=>
        obtain⟨k,hk,rfl,rfl,HBR⟩:=hrel
        by_cases hk8:k<13
        · have hkI:(k:Int)<13:=by omega
          have hk0:(0:Int)≤(k:Int):=by omega
          have HROW:=(un HFA k hk8).later (un HBR) (un HGA);obtain⟨x0,x1,x2,x3,x4,x5,x6,hct⟩:=zDs k hk8;have HW:=zAb (wide_step k hk8 x0 x1 x2 x3 x4 x5 x6 hct);unfold CR at HROW
          rw[hct]at HROW;have c0:wr.cell? ⟨gwa,k*7,none⟩=some (.string x0):=HROW 0 _ rfl;have c4:wr.cell? ⟨gwa,k*7+4,none⟩=some (.string x4):=HROW 4 _ rfl;have c5:wr.cell? ⟨gwa,k*7+5,none⟩=some (.string x5):=HROW 5 _ rfl;clear HROW hct;have hwl:wideN k≤3:=by unfold wideN;split<;>split<;>split<;>omega
          rcases un HW with ⟨e1,e2,e3,rfl,rfl,ew⟩|⟨hn4,ew,hc⟩
          · have heq:=eqlQ_yes ⟨#[48]⟩ ⟨#[49]⟩
            have HE:=zAb ew;clear ew HW
            go_wp2_with fail
            go_roundw
            case rel=>exact⟨k+1,by omega,by go_num,by rw[un HE],HBR⟩
            case measure=>simp[intOf];omega
          · have heq:=eqlQ_no x4 x5 ⟨#[48]⟩ ⟨#[49]⟩ hn4
            have HE:=zAb ew;clear ew HW hn4;rcases hc with e1|⟨e1,e2⟩|⟨e1,e2,e3⟩
            all_goals
              go_wp2_with fail
              go_roundw
              case rel=>exact⟨k+1,by omega,by go_num,by rw[un HE];go_num,HBR⟩
              case measure=>simp[intOf];omega
        · have hkI:¬(k:Int)<13:=by omega
          obtain rfl:k=13:=by omega
          have hw13:wideN 13=3:=by decide +kernel
          rw[hw13]
          go_wp2_with fail
          go_ret
          exact⟨rfl,(un HBA).trans ((un HBR).mono (un HBA).size)⟩
end Go.Proofs.YtliadckofhblnaaGreatDoor.Nt

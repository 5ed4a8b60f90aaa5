/- A unit of temperature by a word. -/
import Derived.Test.YtliadckofhblnaaGreatDoorLimb3
import Derived.Test.YtliadckofhblnaaGreatDoorNmClass
import Derived.Test.YtliadckofhblnaaGreatDoorTabS
import Derived.Deep.Onto
import Derived.Test.YtliadckofhblnaaGreatDoorTmFind
import Derived.Test.YtliadckofhblnaaGreatDoorPower
set_option maxHeartbeats 8000000
set_option maxRecDepth 100000
namespace Go.Proofs.YtliadckofhblnaaGreatDoor.Tm
open Go.RowKit Go.Maps Go.ChangeMaps Go.WideMaps
def mfn:Nat→ByteArray
 | 0=>⟨#[53]⟩
 | 1=>⟨#[49]⟩
 | _=>⟨#[53]⟩
def mfd:Nat→ByteArray
 | 0=>⟨#[57]⟩
 | 1=>⟨#[49]⟩
 | _=>⟨#[57]⟩
def mon:Nat→ByteArray
 | 0=>⟨#[48]⟩
 | 1=>⟨#[53,52,54,51]⟩
 | _=>⟨#[52,53,57,54,55]⟩
def mod:Nat→ByteArray
 | 0=>⟨#[49]⟩
 | 1=>⟨#[50,48]⟩
 | _=>⟨#[49,56,48]⟩
def rtM (k:Nat):Array Value:=#[.string (sct k).nm,.string (sct k).sy,I 0,I 0,I 0,I 0,I 1,I 0,I 0,I 0,.string (mfn k),.string (mfd k),.string (mon k),.string (mod k),I 0]
def rowM (k:Nat):Array Value:=#[.string (sct k).nm,.string (sct k).sy,.func (.func (sct k).f) #[] #[]]
theorem zGe (n D:Nat) (q:Rat) (fn fd:ByteArray) (w:World) (hN:n<9223372036854775808) (hD:D<9223372036854775808) (hD0:Cub.valQ false D 1≠0) (hq:Cub.valQ false n 1*(Cub.valQ false D 1)⁻¹=q) (hs:IsR fn fd q) (htab:Tab w) :
 Calls Tryz.prog 109 #[.agg #[I (n:Int),I (D:Int)]] w fun r w'=>r=.returned (.agg #[.string fn,.string fd])∧Bw w w':=by
 have h:=zGf n D q w hN hD hD0 hq hs.1 htab;rw[←hs.2.1,←hs.2.2]at h;exact h
theorem told_m:∀k,k<3→∀W,Tab W→Calls Tryz.prog 44 #[.agg (rowM k),.agg dimK] W fun r w'=>r=.returned (.agg (rtM k))∧Bw W w'
 | 0,_=>fun W ht=>told44 5 9 0 1 _ _ _ _ _ _ _ W (enter_sc 0 (by decide)) (made_sc 0 (by decide)) (fun V hb=>zGe 5 9 (5 / 9) _ _ V (by decide) (by decide) (by decide +kernel) (by decide +kernel) (zBf _ _ 5 9 (5 / 9) (by decide +kernel) (by decide +kernel) (by decide +kernel) (by decide +kernel) (by decide +kernel) (by decide +kernel) (by decide +kernel) (by decide +kernel) (by decide +kernel)) (ht.later hb)) (fun V hb=>zGe 0 1 0 _ _ V (by decide) (by decide) (by decide +kernel) (by decide +kernel) (zBf _ _ 0 1 0 (by decide +kernel) (by decide +kernel) (by decide +kernel) (by decide +kernel) (by decide +kernel) (by decide +kernel) (by decide +kernel) (by decide +kernel) (by decide +kernel)) (ht.later hb))
 | 1,_=>fun W ht=>told44 1 1 27315 100 _ _ _ _ _ _ _ W (enter_sc 1 (by decide)) (made_sc 1 (by decide)) (fun V hb=>zGe 1 1 1 _ _ V (by decide) (by decide) (by decide +kernel) (by decide +kernel) (zBf _ _ 1 1 1 (by decide +kernel) (by decide +kernel) (by decide +kernel) (by decide +kernel) (by decide +kernel) (by decide +kernel) (by decide +kernel) (by decide +kernel) (by decide +kernel)) (ht.later hb)) (fun V hb=>zGe 27315 100 (5463 / 20) _ _ V (by decide) (by decide) (by decide +kernel) (by decide +kernel) (zBf _ _ 5463 20 (5463 / 20) (by decide +kernel) (by decide +kernel) (by decide +kernel) (by decide +kernel) (by decide +kernel) (by decide +kernel) (by decide +kernel) (by decide +kernel) (by decide +kernel)) (ht.later hb))
 | 2,_=>fun W ht=>told44 5 9 229835 900 _ _ _ _ _ _ _ W (enter_sc 2 (by decide)) (made_sc 2 (by decide)) (fun V hb=>zGe 5 9 (5 / 9) _ _ V (by decide) (by decide) (by decide +kernel) (by decide +kernel) (zBf _ _ 5 9 (5 / 9) (by decide +kernel) (by decide +kernel) (by decide +kernel) (by decide +kernel) (by decide +kernel) (by decide +kernel) (by decide +kernel) (by decide +kernel) (by decide +kernel)) (ht.later hb)) (fun V hb=>zGe 229835 900 (45967 / 180) _ _ V (by decide) (by decide) (by decide +kernel) (by decide +kernel) (zBf _ _ 45967 180 (45967 / 180) (by decide +kernel) (by decide +kernel) (by decide +kernel) (by decide +kernel) (by decide +kernel) (by decide +kernel) (by decide +kernel) (by decide +kernel) (by decide +kernel)) (ht.later hb))
 | _+3,h=>absurd h (by omega)
theorem takes_any (nm sy fn fd on od:ByteArray) (d0 d1 d2 d3 d4 d5 d6 d7:Int) (w:World) (htab:Tab w) :
 Calls Tryz.prog 173 #[.agg #[.string nm,.string sy,I d0,I d1,I d2,I d3,I d4,I d5,I d6,I d7,.string fn,.string fd,.string on,.string od,I 0]] w fun r w'=>r=.returned (.bool true)∧Bw w w':=by
 obtain⟨V,hV⟩:∃V,V=w.alloc (.cells #[.string nm,.string sy,I d0,I d1,I d2,I d3,I d4,I d5,I d6,I d7,.string fn,.string fd,.string on,.string od,I 0] 30):=⟨_,rfl⟩;have HU:Hid (zAc V w.heap.size 30 #[.string nm,.string sy,I d0,I d1,I d2,I d3,I d4,I d5,I d6,I d7,.string fn,.string fd,.string on,.string od,I 0]):=by rw[hV];exact zAc.new _ _ _
 have HB:Hid (Bw w V):=by rw[hV];exact bA
 have HTA:Hid (∀W,Below w.heap.size w W→Tab W):=fun W h=>htab.later h
 have HV:=zAb hV;clear hV htab;go_enter Tryz.func173,Tryz.ntmps173
 go_upto_region 1 with fail
 rw[←un HV];clear HV;have u12:V.cell? ⟨w.heap.size,12,none⟩=some (.string on):=(un HU).ub.c 12 _ rfl;have u13:V.cell? ⟨w.heap.size,13,none⟩=some (.string od):=(un HU).ub.c 13 _ rfl;have u14:V.cell? ⟨w.heap.size,14,none⟩=some (I 0):=(un HU).ub.c 14 _ rfl
 go_wp2_with fail
 go_ret
 exact⟨rfl,un HB⟩
theorem right_off (k:Nat) (x y:Rat) (hx:IsR (mfn k) (mfd k) x) (hy:IsR (mon k) (mod k) y) (h0:Cub.cmpQ x 0=1) (h:(okN (sct k).nm && okN (sct k).sy && Dm.rightB [0,0,0,0,1,0,0,0])=true) (W:World) (ht:Tab W):Calls Tryz.prog 96 #[.agg (rtM k)] W fun r w'=>r=.returned (.bool true)∧Bw W w':=by
 simp only[Bool.and_eq_true]at h;obtain⟨⟨h1,h2⟩,h3⟩:=h;exact rightUnit_any _ _ _ _ _ _ _ _ _ _ _ _ _ _ _ W (fun V _=>zAv _ _ V (zDk h1) (zDk h2)) (fun V _=>dim34 _ _ _ _ _ _ _ _ h3 V) (fun V _=>above_any _ _ _ V hx h0) (fun V _=>zBd _ _ _ V hy) (fun V hV=>takes_any _ _ _ _ _ _ _ _ _ _ _ _ _ _ V (ht.later hV))
theorem right_m:∀k,k<3→∀W,Tab W→Calls Tryz.prog 96 #[.agg (rtM k)] W fun r w'=>r=.returned (.bool true)∧Bw W w'
 | 0,_=>right_off 0 (5 / 9) 0 (zBf _ _ 5 9 (5 / 9) (by decide +kernel) (by decide +kernel) (by decide +kernel) (by decide +kernel) (by decide +kernel) (by decide +kernel) (by decide +kernel) (by decide +kernel) (by decide +kernel)) (zBf _ _ 0 1 0 (by decide +kernel) (by decide +kernel) (by decide +kernel) (by decide +kernel) (by decide +kernel) (by decide +kernel) (by decide +kernel) (by decide +kernel) (by decide +kernel)) (by decide +kernel) (by decide +kernel)
 | 1,_=>right_off 1 1 (5463 / 20) (zBf _ _ 1 1 1 (by decide +kernel) (by decide +kernel) (by decide +kernel) (by decide +kernel) (by decide +kernel) (by decide +kernel) (by decide +kernel) (by decide +kernel) (by decide +kernel)) (zBf _ _ 5463 20 (5463 / 20) (by decide +kernel) (by decide +kernel) (by decide +kernel) (by decide +kernel) (by decide +kernel) (by decide +kernel) (by decide +kernel) (by decide +kernel) (by decide +kernel)) (by decide +kernel) (by decide +kernel)
 | 2,_=>right_off 2 (5 / 9) (45967 / 180) (zBf _ _ 5 9 (5 / 9) (by decide +kernel) (by decide +kernel) (by decide +kernel) (by decide +kernel) (by decide +kernel) (by decide +kernel) (by decide +kernel) (by decide +kernel) (by decide +kernel)) (zBf _ _ 45967 180 (45967 / 180) (by decide +kernel) (by decide +kernel) (by decide +kernel) (by decide +kernel) (by decide +kernel) (by decide +kernel) (by decide +kernel) (by decide +kernel) (by decide +kernel)) (by decide +kernel) (by decide +kernel)
 | _+3,h=>absurd h (by omega)
def DDm:Nat→DataW Unit
 | 0=>.map []
 | k+1=>((DDm k).put (.string (sct k).nm.data.toList) (.lit (.bool true))).put (.string (sct k).sy.data.toList) (.lit (.bool true))
theorem hasM_nm:∀k,k<3→Maps.has (DDm k) (.string (sct k).nm.data.toList)=false
 | 0,_=>by kernel_rfl
 | 1,_=>by kernel_rfl
 | 2,_=>by kernel_rfl
 | _+3,h=>absurd h (by omega)
theorem hasM_sy:∀k,k<3→Maps.has (DDm k) (.string (sct k).sy.data.toList)=false
 | 0,_=>by kernel_rfl
 | 1,_=>by kernel_rfl
 | 2,_=>by kernel_rfl
 | _+3,h=>absurd h (by omega)
theorem small_m:∀k,k<3→(sct k).nm.size≤maxLen∧(sct k).sy.size≤maxLen
 | 0,_=>⟨by decide,by decide⟩
 | 1,_=>⟨by decide,by decide⟩
 | 2,_=>⟨by decide,by decide⟩
 | _+3,h=>absurd h (by omega)
def usM (k:Nat):List (Array Value):=(List.range k).map fun i=>rtM i
theorem usM_succ (k:Nat):usM (k+1)=usM k ++ [rtM k]:=by unfold usM;rw[List.range_succ,List.map_append];rfl
theorem usM_len (k:Nat):(usM k).length=k:=by simp[usM]
theorem usM_is (n k:Nat) (u:Array Value) (h:(usM n)[k]?=some u):IsU u:=by
 unfold usM at h
 rw[List.getElem?_map]at h;obtain⟨i,_,rfl⟩:=Option.map_eq_some_iff.1 h;exact⟨_,_,_,_,_,_,_,_,_,_,_,_,_,_,_,rfl⟩
theorem rg_withK {W:World} {K K':Nat→Nat→Array Value→Prop} {base r m n:Nat} {vs:Value} {ps:List Nat} {us:List (Array Value)} {D:DataW Unit} (h:RG W K base r m vs ps us n D) (hk:∀(g ty:Nat) (us:Array Value),K' g ty us→ty≠116∧ty≠121∧zAc W g ty us):RG W K' base r m vs ps us n D:=⟨h.k0,h.row,h.mp,h.un,h.bs,hk⟩
def KS (gp gs:Nat) (pa cur:Array Value):Nat→Nat→Array Value→Prop:=fun b ty us=>(b=gp∧ty=26∧us=pa)∨(b=gs∧ty=69∧us=cur)
theorem R3.same {W V:World} {g k:Nat} (h:R3 W g k) (e:V.heap[g]?=W.heap[g]?):R3 V g k:=by
 have c:∀o,V.cell? ⟨g,o,none⟩=W.cell? ⟨g,o,none⟩:=fun o=>by simp only[World.cell?,e]
 exact⟨(c _).trans h.c0,(c _).trans h.c1,(c _).trans h.c2⟩
theorem rows3_at (W:World):∀k,k<3→R3 (W.alloc (.cells rows3 69)) W.heap.size k
 | 0,_=>⟨by simp[go_sem];rfl,by simp[go_sem];rfl,by simp[go_sem];rfl⟩
 | 1,_=>⟨by simp[go_sem];rfl,by simp[go_sem];rfl,by simp[go_sem];rfl⟩
 | 2,_=>⟨by simp[go_sem];rfl,by simp[go_sem];rfl,by simp[go_sem];rfl⟩
 | _+3,h=>absurd h (by omega)
theorem addM (K:Nat→Nat→Array Value→Prop) (k:Nat) (hk:k<3) (r m:Nat) (vs:Value) (ps:List Nat) (w W:World) (htab:Tab w) (h:RG W K w.heap.size r m vs ps (usM k) (2*k) (DDm k)) (hl:ps.length=k) (hb:Below w.heap.size w W) (hm:w.heap.size≤m) (hr:w.heap.size≤r) :
 Calls Tryz.prog 35 #[.pointer (some ⟨r,0,none⟩),.agg (rtM k)] W fun e w'=>e=.returned (I 0)∧(∃p v',RG w' K w.heap.size r m v' (ps ++ [p]) (usM (k+1)) (2*(k+1)) (DDm (k+1)))∧Bw w w':=by
 rw[usM_succ];exact add_any _ _ _ _ _ _ _ _ _ _ _ _ _ _ _ w.heap.size r m (2*k) vs ps (usM k) (DDm k) w W h (by rw[usM_len,hl]) hb hm hr (by omega) (by omega) (small_m k hk).1 (small_m k hk).2 (fun V hV=>right_m k hk V (htab.later (hb.trans (hV.mono hb.size)))) (hasM_nm k hk) (hasM_sy k hk)
theorem tmUnits (w:World) (htab:Tab w):Calls Tryz.prog 17 #[] w fun e w'=>∃v,e=.returned v∧w'.ownsRow w.heap.size 30 15 v 3 (flatU (usM 3) 3)∧Bw w w':=by
 obtain⟨pa,hpa⟩:∃pa,pa=dimK:=⟨_,rfl⟩;have HZ:Hid (pa.size=8):=by rw[hpa];exact(rfl:dimK.size=8)
 have HON:Hid (pa.all (·.oneCell')=true):=by rw[hpa];exact(by show _=_;kernel_rfl)
 have HPA:Hid (∀W,Below w.heap.size w W→Calls Tryz.prog 42 #[] W fun r w'=>r=.returned (.agg pa)∧Bw W w'):=by rw[hpa];exact fun W h=>temperature_any W (htab.later h)
 have HTO:Hid (∀k,k<3→∀W,Below w.heap.size w W→Calls Tryz.prog 44 #[.agg (rowM k),.agg pa] W fun r w'=>r=.returned (.agg (rtM k))∧Bw W w'):=by rw[hpa];exact fun k hk W h=>told_m k hk W (htab.later h)
 clear hpa;have HT:=zAb htab;clear htab;go_enter Tryz.func17,Tryz.ntmps17
 go_upto_region 2 with (first
  | (go_at_call 32;go_must(refine(new_any _).mono ?_;rintro e w1 ⟨rfl,hr,hb⟩;have HR1:=zAb hr;have HB1:=zAb hb;clear hr hb))
  | (go_at_call 42;go_must(refine(un HPA _ (un HB1)).mono ?_;rintro e w2 ⟨rfl,hb⟩;have HR2:=zAb ((un HR1).later hb);have HB2:Hid (Bw w w2):=bt HB1 hb;clear hb HR1 HB1))
  | (refine zAn 26 8 zCw rfl (.tmp 2) (.tmp 6) rfl w2.heap.size z8 pa rfl (un HZ) rfl rfl (zAc.new _ _ _) (un HON) ?_))
 have hb3:Below w2.heap.size w2 ((w2.alloc (.cells z8 26)).setRow w2.heap.size pa):=below_setRow (zBx _ _) (Nat.le_refl _) _;have HP3:Hid (zAc ((w2.alloc (.cells z8 26)).setRow w2.heap.size pa) w2.heap.size 26 pa):=(zAc.new _ _ _).setRow _;have HR3:=zAb ((un HR2).later hb3);have HB3:Hid (Bw w _):=bt HB2 hb3;clear hb3 HR2 HB2;generalize (w2.alloc (.cells z8 26)).setRow w2.heap.size pa=w3 at *
 generalize w2.heap.size=gp at *
 go_upto_region 3 with (go_at_call 43;go_must(refine(zEm _).mono ?_;rintro e w0 ⟨rfl,rfl⟩))
 obtain⟨w4,hw4⟩:∃w4,w4=w3.alloc (.cells rows3 69):=⟨_,rfl⟩;have hb4:Below w3.heap.size w3 w4:=by rw[hw4];exact zBx _ _
 have hcur:zAc w4 w3.heap.size 69 rows3:=by rw[hw4];exact zAc.new _ _ _
 have HRW:Hid (∀V,zAc V w3.heap.size 69 rows3→∀k,k<3→R3 V w3.heap.size k):=fun V hV k hk=>(rows3_at w3 k hk).same (hV.trans (zAc.new w3 rows3 69).symm)
 have HR4:=zAb ((un HR3).later hb4);have HP4:=zAb ((un HP3).later hb4);have HB4:Hid (Bw w w4):=bt HB3 hb4;rw[←hw4];obtain⟨cur,hcu⟩:∃cur,cur=rows3:=⟨_,rfl⟩;rw[←hcu]at hcur HRW;clear hw4 hb4 HR3 HP3 HB3 hcu;generalize w3.heap.size=gR at *
 have HR5:Hid (RG w4 (KS gp gR pa cur) w.heap.size (w.heap.size+1) w.heap.size (.slice none 0 0) [] [] 0 (.map [])):=rg_withK (un HR4) (by
  rintro g ty us (⟨rfl,rfl,rfl⟩|⟨rfl,rfl,rfl⟩)
  ·exact⟨by decide,by decide,un HP4⟩
  ·exact⟨by decide,by decide,hcur⟩)
 obtain⟨r,hr⟩:∃r,r=w.heap.size+1:=⟨_,rfl⟩;have HRB:Hid (w.heap.size≤r):=by show _≤_;omega
 rw[←hr]at HR5 ⊢;clear hr HR4 HP4 hcur
 go_loopw [9] (fun s9 wr=>∃(k:Nat) (ps:List Nat) (vs:Value),k≤3∧s9=I (k:Int)∧Hid (ps.length=k)∧Hid (RG wr (KS gp gR pa cur) w.heap.size r w.heap.size vs ps (usM k) (2*k) (DDm k))∧Hid (Bw w wr)) (fun s9 _=>3 - (intOf s9).toNat)
 case atStart=>exact⟨0,[],_,by omega,rfl,rfl,HR5,HB4⟩
 case round=>
  clear HR5 HB4;obtain⟨k,ps,vs,hk,rfl,HL,HR,HB⟩:=hrel
  by_cases hlt:k<3
  ·have hkI:(k:Int)<3:=by omega
   have hk0:(0:Int)≤(k:Int):=by omega
   have hrow:=un HRW wr ((un HR).ex gR 69 cur (Or.inr ⟨rfl,rfl,rfl⟩)).2.2 k hlt;have c0:=hrow.c0;have c1:=hrow.c1;have c2:=hrow.c2;clear hrow;have HTD:=zAb (un HTO k hlt);have HAD:Hid (∀W,RG W (KS gp gR pa cur) w.heap.size r w.heap.size vs ps (usM k) (2*k) (DDm k)→Below w.heap.size w W→Calls Tryz.prog 35 #[.pointer (some ⟨r,0,none⟩),.agg (rtM k)] W fun e w'=>e=.returned (I 0)∧(∃p v',RG w' (KS gp gR pa cur) w.heap.size r w.heap.size v' (ps ++ [p]) (usM (k+1)) (2*(k+1)) (DDm (k+1)))∧Bw w w'):=fun W h1 h2=>addM _ k hlt r _ vs ps w W (un HT) h1 (un HL) h2 (Nat.le_refl _) (un HRB)
   unfold rowM at HTD
   generalize rtM k=out at *
   generalize (sct k).nm=nm at *
   generalize (sct k).sy=sy at *
   generalize (sct k).f=f at *
   go_upto_region 5 with fail
   clear c0 c1 c2;have hb2:Below wr.heap.size wr (wr.alloc (.cells #[.string nm,.string sy,.func (.func f) #[] #[]] 69)):=zBx _ _;have HX:Hid (zAc (wr.alloc (.cells #[.string nm,.string sy,.func (.func f) #[] #[]] 69)) wr.heap.size 69 #[.string nm,.string sy,.func (.func f) #[] #[]]):=zAc.new _ _ _;have HR3:=zAb ((un HR).later hb2);have HB3:Hid (Bw w _):=bt HB hb2;clear hb2 HR HB;generalize wr.alloc (.cells #[.string nm,.string sy,.func (.func f) #[] #[]] 69)=w5 at *
   generalize wr.heap.size=g4 at *
   have HPX:Hid (zAc w5 gp 26 pa):=((un HR3).ex gp 26 pa (Or.inl ⟨rfl,rfl,rfl⟩)).2.2;have d0:=(un HX).ub.c 0 _ rfl;have d1:=(un HX).ub.c 1 _ rfl;have d2:=(un HX).ub.c 2 _ rfl
   go_wp2_with (first
    | (refine wpList_load_row rfl 26 (.tmp 2) rfl gp rfl 26 pa (0,0) _ (un HPX) Tryz.underlying26 rfl (by rw[zCw,un HZ]) ?_)
    | (go_at_call 44;go_must(refine(un HTD _ (un HB3)).mono ?_;rintro e wt ⟨rfl,hbt⟩;have HR4:=zAb ((un HR3).later hbt);have HB4:Hid (Bw w wt):=bt HB3 hbt;clear hbt d0 d1 d2))
    | (go_at_call 35;go_must(refine(un HAD _ (un HR4) (un HB4)).mono ?_;rintro e wu ⟨rfl,⟨p,v',hr5⟩,hb5⟩;have HR5:=zAb hr5;have HB5:=zAb hb5;clear hr5 hb5)))
   go_roundw
   case rel=>exact⟨k+1,ps ++ [p],v',by omega,by go_num,(by have h:=un HL;show(ps ++ [p]).length=k+1;rw[List.length_append,h];rfl),HR5,HB5⟩
   case measure=>simp[intOf];omega
  ·have hkI:¬(k:Int)<3:=by omega
   have HK:Hid (k=3):=by show k=3;omega
   have HUN:Hid (Calls Tryz.prog 37 #[.pointer (some ⟨r,0,none⟩)] wr fun e w'=>∃v,e=.returned v∧w'.ownsRow wr.heap.size 30 15 v 3 (flatU (usM 3) 3)∧Bw wr w'):=by
    have h:=un HR;have hl:=un HL;rw[un HK]at h hl;have hh:=units_any _ _ _ _ _ _ _ _ wr h (by rw[usM_len,hl]) (by omega) (by omega) (usM_is 3);rw[hl]at hh;exact hh
   go_wp2_with (go_at_call 37;go_must(refine(un HUN).mono ?_;rintro e wt ⟨v,rfl,ho,hbt⟩;have HO:=zAb ho;have HB4:Hid (Bw w wt):=bt HB hbt;clear hbt ho))
   go_ret
   exact⟨v,rfl,(un HO).mono (un HB).size,un HB4⟩
end Go.Proofs.YtliadckofhblnaaGreatDoor.Tm
namespace Go.Proofs.YtliadckofhblnaaGreatDoor.Tm
open Go.RowKit
def fq:Nat→Rat
 | 0=>5 / 9
 | 1=>1
 | 2=>5 / 9
 | _=>1
def oq:Nat→Rat
 | 0=>0
 | 1=>5463 / 20
 | 2=>45967 / 180
 | _=>0
theorem frac_f:∀k,k<4→∀w,Tab w→Calls Tryz.prog 54 #[.agg #[I ((sct k).a:Int),I ((sct k).b:Int)]] w fun r w'=>∃v,r=.returned v∧QOf w' v (fq k) 67∧Bw w w'
 | 0,_,w,ht=>zEq 5 9 (5 / 9) w (by decide) (by decide) (by decide +kernel) (by decide +kernel) (zDt (by decide +kernel) (by decide +kernel)) ht
 | 1,_,w,ht=>zEq 1 1 1 w (by decide) (by decide) (by decide +kernel) (by decide +kernel) (zDt (by decide +kernel) (by decide +kernel)) ht
 | 2,_,w,ht=>zEq 5 9 (5 / 9) w (by decide) (by decide) (by decide +kernel) (by decide +kernel) (zDt (by decide +kernel) (by decide +kernel)) ht
 | 3,_,w,ht=>zEq 1 1 1 w (by decide) (by decide) (by decide +kernel) (by decide +kernel) (zDt (by decide +kernel) (by decide +kernel)) ht
 | n+4,h,_,_=>absurd h (by omega)
theorem frac_o:∀k,k<4→∀w,Tab w→Calls Tryz.prog 54 #[.agg #[I ((sct k).c:Int),I ((sct k).d:Int)]] w fun r w'=>∃v,r=.returned v∧QOf w' v (oq k) 67∧Bw w w'
 | 0,_,w,ht=>zEq 0 1 0 w (by decide) (by decide) (by decide +kernel) (by decide +kernel) (zDt (by decide +kernel) (by decide +kernel)) ht
 | 1,_,w,ht=>zEq 27315 100 (5463 / 20) w (by decide) (by decide) (by decide +kernel) (by decide +kernel) (zDt (by decide +kernel) (by decide +kernel)) ht
 | 2,_,w,ht=>zEq 229835 900 (45967 / 180) w (by decide) (by decide) (by decide +kernel) (by decide +kernel) (zDt (by decide +kernel) (by decide +kernel)) ht
 | 3,_,w,ht=>zEq 0 1 0 w (by decide) (by decide) (by decide +kernel) (by decide +kernel) (zDt (by decide +kernel) (by decide +kernel)) ht
 | n+4,h,_,_=>absurd h (by omega)
def zBg (W:World) (g:Nat) (a b c d e f:Value):World:=(((((W.setCell ⟨g,0,none⟩ a).setCell ⟨g,1,none⟩ b).setCell ⟨g,2,none⟩ c).setCell ⟨g,3,none⟩ d).setCell ⟨g,4,none⟩ e).setCell ⟨g,5,none⟩ f
theorem T6.store {W:World} {g:Nat} {a b c d e f:Value} (h:T6 W g a b c d e f) (x y z t u v:Value):T6 (zBg W g x y z t u v) g x y z t u v:=by
 have c0:=h.c0;have c1:=h.c1;have c2:=h.c2;have c3:=h.c3;have c4:=h.c4;have c5:=h.c5;have f0:=h.f0;have f1:=h.f1;have f2:=h.f2;have f3:=h.f3;have f4:=h.f4;have f5:=h.f5;unfold zBg;exact⟨by simp[go_sem, *],by simp[go_sem, *],by simp[go_sem, *],by simp[go_sem, *],by simp[go_sem, *],by simp[go_sem, *],by simp[go_sem, *],by simp[go_sem, *],by simp[go_sem, *],by simp[go_sem, *],by simp[go_sem, *],by simp[go_sem, *]⟩
theorem zEs {B g:Nat} {w W:World} (h:Below B w W) (hg:B≤g) (a b c d e f:Value):Below B w (zBg W g a b c d e f) :=
 (((((h.setCell (p:=⟨g,0,none⟩) hg a).setCell (p:=⟨g,1,none⟩) hg b).setCell (p:=⟨g,2,none⟩) hg c).setCell (p:=⟨g,3,none⟩) hg d).setCell (p:=⟨g,4,none⟩) hg e).setCell (p:=⟨g,5,none⟩) hg f
theorem _root_.Go.Proofs.YtliadckofhblnaaGreatDoor.QOf.box {W:World} {vv:Value} {q:Rat} {k:Nat} (hq:QOf W vv q k) {p:Addr} {x:Value} (u:Value) (hp:W.cell? p=some x) (hx:∀k n,x≠.int k n):QOf (W.setCell p u) vv q k:=by
 obtain⟨b0,n,d,⟨s,t,e,h1,h1'⟩,h2⟩:=hq;exact⟨b0,n,d,⟨s,t,e,h1.box u hp hx,h1'.box u hp hx⟩,h2⟩
theorem _root_.Go.Proofs.YtliadckofhblnaaGreatDoor.QOf.six {W:World} {g:Nat} {b0 b1:Bool} {a1 a2 a3 a4:Option Addr} {l1 c1 l2 c2 l3 c3 l4 c4:Nat} (h:T6 W g (.bool b0) (.slice a1 l1 c1) (.slice a2 l2 c2) (.bool b1) (.slice a3 l3 c3) (.slice a4 l4 c4)) (x y z t u v:Value) {vv:Value} {q:Rat} {k:Nat} (hq:QOf W vv q k):QOf (zBg W g x y z t u v) vv q k:=by
 unfold zBg;refine QOf.box (QOf.box (QOf.box (QOf.box (QOf.box (QOf.box hq _ h.c0 (fun _ _ e=>by cases e)) _ (x:=.slice a1 l1 c1) ?_ (zAp _ _ _)) _ (x:=.slice a2 l2 c2) ?_ (zAp _ _ _)) _ (x:=.bool b1) ?_ (fun _ _ e=>by cases e)) _ (x:=.slice a3 l3 c3) ?_ (zAp _ _ _)) _ (x:=.slice a4 l4 c4) ?_ (zAp _ _ _)
 ·rw[World.cell?_setCell_other _ _ _ _ (by simp)];exact h.c1
 ·rw[World.cell?_setCell_other _ _ _ _ (by simp),World.cell?_setCell_other _ _ _ _ (by simp)];exact h.c2
 ·rw[World.cell?_setCell_other _ _ _ _ (by simp),World.cell?_setCell_other _ _ _ _ (by simp),World.cell?_setCell_other _ _ _ _ (by simp)];exact h.c3
 ·rw[World.cell?_setCell_other _ _ _ _ (by simp),World.cell?_setCell_other _ _ _ _ (by simp),World.cell?_setCell_other _ _ _ _ (by simp),World.cell?_setCell_other _ _ _ _ (by simp)];exact h.c4
 ·rw[World.cell?_setCell_other _ _ _ _ (by simp),World.cell?_setCell_other _ _ _ _ (by simp),World.cell?_setCell_other _ _ _ _ (by simp),World.cell?_setCell_other _ _ _ _ (by simp),World.cell?_setCell_other _ _ _ _ (by simp)];exact h.c5
theorem own_later {w w':World} {base e s n:Nat} {v:Value} {xs:List Value} (h:w.ownsRow base e s v n xs) (hb:Below w.heap.size w w'):w'.ownsRow base e s v n xs:=by
 obtain⟨hx,h2⟩:=h;refine⟨hx,?_⟩;rcases h2 with h2|⟨g,cap,cur,ee,hbs,hg,r⟩
 ·exact Or.inl h2
 ·exact Or.inr ⟨g,cap,cur,ee,hbs,(hb.block g (Array.getElem?_eq_some_iff.1 hg).1).trans hg,r⟩
theorem info90:(Tryz.prog.info? 69).map (fun i=>(i.zero,i.size,i.bytes))=some (some (.agg #[G #[],G #[],.nilFunc]),3,40):=by kernel_rfl
theorem under93:Tryz.prog.underlying 65=some (.slice 69):=by kernel_rfl
def kelL:List Value:=[G #[107,101,108,118,105,110],G #[75],.func (.func 114) #[] #[]]
theorem kel_new (W:World):∀j u,kelL[j]?=some u→(W.alloc (.cells #[G #[107,101,108,118,105,110],G #[75],.func (.func 114) #[] #[]] 69)).cell? ((⟨W.heap.size,0,none⟩:Addr).add j)=some u:=by
 intro j u hu;unfold kelL at hu
 rcases j with _|_|_|j<;>simp at hu
 all_goals (subst hu;simp[Addr.add,go_sem])
theorem kel_one:∀u∈kelL,u.oneCell'=true:=by
 intro u hu;unfold kelL at hu
 simp only[List.mem_cons,List.not_mem_nil,or_false]at hu;rcases hu with rfl|rfl|rfl<;>rfl
theorem rows3_own (w:World):(w.alloc (.cells rows3 69)).ownsRow w.heap.size 69 3 (.slice (some ⟨w.heap.size,0,none⟩) 3 3) 3 rows3.toList :=
 ⟨rfl,Or.inr ⟨w.heap.size,3,rows3,rfl,Nat.le_refl _,heap_alloc_new w _,Nat.le_refl _,by unfold maxLen;omega,rfl,rfl⟩⟩
theorem rows4_at {W:World} {base:Nat} {v:Value} (h:W.ownsRow base 69 3 v 4 (rows3.toList ++ kelL)):∃g cap,v=.slice (some ⟨g,0,none⟩) 4 cap∧g<W.heap.size∧∀k,k<4→R3 W g k:=by
 obtain⟨g,cap,rfl⟩:=Joins.ownsRow_form h (by decide);refine⟨g,cap,rfl,(h.lt g rfl).2,fun k hk=>?_⟩
 have e:∀q u,(rows3.toList ++ kelL)[q]?=some u→q<12→W.cell? ⟨g,q,none⟩=some u:=fun q u hu hq=>by
  rw[h.cellAt q (by omega),hu]
 match k,hk with
 | 0,_=>exact⟨e 0 _ rfl (by omega),e 1 _ rfl (by omega),e 2 _ rfl (by omega)⟩
 | 1,_=>exact⟨e 3 _ rfl (by omega),e 4 _ rfl (by omega),e 5 _ rfl (by omega)⟩
 | 2,_=>exact⟨e 6 _ rfl (by omega),e 7 _ rfl (by omega),e 8 _ rfl (by omega)⟩
 | 3,_=>exact⟨e 9 _ rfl (by omega),e 10 _ rfl (by omega),e 11 _ rfl (by omega)⟩
def KnownR (s:ByteArray) (v:Value) (w:World):Prop :=
 (∃(k:Nat) (b c:Bool) (a1 a2 a3 a4:Option Addr) (l1 c1 l2 c2 l3 c3 l4 c4:Nat),k<4∧zBc (scB s) (k:Int)∧v=.tuple #[.agg #[.bool b,.slice a1 l1 c1,.slice a2 l2 c2,.bool c,.slice a3 l3 c3,.slice a4 l4 c4],.bool true]∧QOf w (.agg #[.bool b,.slice a1 l1 c1,.slice a2 l2 c2]) (fq k) 67∧QOf w (.agg #[.bool c,.slice a3 l3 c3,.slice a4 l4 c4]) (oq k) 67)
 ∨ (zBc (scB s) (-1)∧v=.tuple #[.agg #[.bool false,.slice none 0 0,.slice none 0 0,.bool false,.slice none 0 0,.slice none 0 0],.bool false])
theorem known_any (s:ByteArray) (w:World) (htab:Tab w):Calls Tryz.prog 51 #[.string s] w fun r w'=>∃v,r=.returned v∧KnownR s v w'∧Bw w w':=by
 obtain⟨i0,hi,hz0,hz1,hz2⟩:=info_parts info90;obtain⟨V,hV⟩:∃V,V=w.alloc (.cells #[.bool false,.slice none 0 0,.slice none 0 0,.bool false,.slice none 0 0,.slice none 0 0] 84):=⟨_,rfl⟩;have HZ:Hid (T6 V w.heap.size (.bool false) (.slice none 0 0) (.slice none 0 0) (.bool false) (.slice none 0 0) (.slice none 0 0)):=by rw[hV];exact⟨by simp[go_sem],by simp[go_sem],by simp[go_sem],by simp[go_sem],by simp[go_sem],by simp[go_sem],by simp[go_sem],by simp[go_sem],by simp[go_sem],by simp[go_sem],by simp[go_sem],by simp[go_sem]⟩
 have HB:Hid (Bw w V):=by rw[hV];exact bA
 have HV:=zAb hV;have HTW:=zAb htab;clear hV htab;have HRO:=zAb (zEm V);go_enter Tryz.func51,Tryz.ntmps51
 go_upto_region 1 with fail
 rw[←un HV];clear HV
 go_upto_region 2 with (first
  | (go_at_call 43;go_must(refine(un HRO).mono ?_;rintro e w1 ⟨rfl,hw1⟩;have HO1:Hid (w1.ownsRow V.heap.size 69 3 (.slice (some ⟨V.heap.size,0,none⟩) 3 3) 3 rows3.toList):=(by rw[hw1];exact rows3_own V);have HB1:Hid (Bw V w1):=(by rw[hw1];exact bA);clear hw1))
  | (at_builtin;refine wpList_append_own _ rfl _ _ 65 rfl V.heap.size 69 i0 (.agg #[G #[],G #[],.nilFunc]) 3 40 under93 hi hz0 hz1 hz2 rfl (by decide) _ 3 rows3.toList rfl (own_later (un HO1) bA) ⟨w1.heap.size,0,none⟩ 1 1 kelL rfl rfl (kel_new _) kel_one (by unfold maxLen;omega) (by omega) (by have h1:=(un HB1).size;simp;omega) ?_;intro v2 w2 hown hgrow hnil;obtain⟨g,cap,rfl,hg,hr4⟩:=rows4_at hown;have HR4:=zAb hr4;have HG:=zAb hg;have HB2:Hid (Bw V w2):=((un HB1).alloc (un HB1).size _).grown hgrow (by have h1:=(un HB1).size;simp;omega) (fun j hj=>((un HO1).lt j hj).1);clear hown hgrow hnil hr4 hg)
  | (go_at_call 48;go_must(refine(find_any s g cap _ (un HR4) (un HG)).mono ?_;rintro e w3 ⟨hf,hb3⟩;have HB3:Hid (Bw V w3):=bt HB2 hb3;have HFD:=zAb hf;clear hf hb3;rcases un HFD with ⟨k,hk,rfl,hfk⟩|⟨rfl,hfn⟩)))
 ·have HFK:=zAb hfk
  clear hfk HFD;obtain⟨Y,hY⟩:∃Y,Y=w3.alloc (.cells #[.string (sct k).nm,.string (sct k).sy,.func (.func (sct k).f) #[] #[]] 69):=⟨_,rfl⟩;have HXY:Hid (FBox Y w3.heap.size (.string (sct k).nm) (.string (sct k).sy) (.func (.func (sct k).f) #[] #[])):=by rw[hY];exact⟨by simp[go_sem],by simp[go_sem],by simp[go_sem],by simp[go_sem],by simp[go_sem],by simp[go_sem]⟩
  have HBY:Hid (Bw V Y):=by rw[hY];exact(un HB3).alloc (un HB3).size _
  rw[←hY];clear hY;generalize w3.heap.size=g3 at *
  have HM:=zAb (made_sc k hk);unfold MadeS at HM
  have hen:=enter_sc k hk;have HFF:=zAb (fun W (ht:Tab W)=>frac_f k hk W ht);have HFO:=zAb (fun W (ht:Tab W)=>frac_o k hk W ht);have HOUT:Hid (∀(b c:Bool) (a1 a2 a3 a4:Option Addr) (l1 c1 l2 c2 l3 c3 l4 c4:Nat) (W:World),QOf W (.agg #[.bool b,.slice a1 l1 c1,.slice a2 l2 c2]) (fq k) 67→QOf W (.agg #[.bool c,.slice a3 l3 c3,.slice a4 l4 c4]) (oq k) 67→KnownR s (.tuple #[.agg #[.bool b,.slice a1 l1 c1,.slice a2 l2 c2,.bool c,.slice a3 l3 c3,.slice a4 l4 c4],.bool true]) W):=fun b c a1 a2 a3 a4 l1 c1 l2 c2 l3 c3 l4 c4 W h1 h2=>Or.inl ⟨k,b,c,a1,a2,a3,a4,l1,c1,l2,c2,l3,c3,l4,c4,hk,un HFK,rfl,h1,h2⟩
  generalize (sct k).nm=nm at *
  generalize (sct k).sy=sy at *
  generalize (sct k).f=f at *
  generalize (sct k).a=na at *
  generalize (sct k).b=nb at *
  generalize (sct k).c=nc at *
  generalize (sct k).d=nd at *
  have x2:=(un HXY).c2
  go_upto_region 5 with (refine(un HM _).mono ?_;rintro e w5 ⟨rfl,hb5⟩;have HB5:Hid (Bw V w5):=bt HBY hb5;clear hb5 x2)
  obtain⟨U,hU⟩:∃U,U=w5.alloc (.cells #[I (na:Int),I (nb:Int),I (nc:Int),I (nd:Int)] 138):=⟨_,rfl⟩;have HU4:Hid (T4 U w5.heap.size (I (na:Int)) (I (nb:Int)) (I (nc:Int)) (I (nd:Int))):=by rw[hU];exact⟨by simp[go_sem],by simp[go_sem],by simp[go_sem],by simp[go_sem],by simp[go_sem],by simp[go_sem],by simp[go_sem],by simp[go_sem]⟩
  have HBU:Hid (Bw V U):=by rw[hU];exact(un HB5).alloc (un HB5).size _
  rw[←hU];clear hU;generalize w5.heap.size=g6 at *
  have HZU:=zAb ((un HZ).later (un HBU));have HBW:Hid (Bw w U):=(un HB).trans ((un HBU).mono (un HB).size);have HTD:Hid (∀W,Below U.heap.size U W→Tab W):=fun W hb=>(un HTW).later (bt HBW hb)
  have HSS:Hid (∀W,Below U.heap.size U W→W.cell? ⟨g6,0,none⟩=some (I (na:Int))∧W.cell? ⟨g6,1,none⟩=some (I (nb:Int))∧W.cell? ⟨g6,2,none⟩=some (I (nc:Int))∧W.cell? ⟨g6,3,none⟩=some (I (nd:Int))):=fun W hb=>by
   have h1:=(un HU4).later hb;exact⟨h1.c0,h1.c1,h1.c2,h1.c3⟩
  have HS0:=zAb (un HSS U.drew ((Below.refl _ _).drew));refine zAi 7 (fun W=>W.cell? ⟨g6,0,none⟩=some (I (na:Int))∧W.cell? ⟨g6,1,none⟩=some (I (nb:Int))∧W.cell? ⟨g6,2,none⟩=some (I (nc:Int))∧W.cell? ⟨g6,3,none⟩=some (I (nd:Int))) (fun _=>True) 9 rfl (by kernel_rfl) ?_;refine wT 0 (.pointer (some ⟨g6,0,none⟩)) rfl (Or.inl ⟨by rfl,?_⟩) ⟨un HS0,trivial⟩ ?_
  ·intro W hW
   go_split_ands
   go_simp
  refine wT 1 (.agg #[I (na:Int),I (nb:Int)]) rfl (Or.inl ⟨by rfl,?_⟩) ⟨un HS0,trivial⟩ ?_
  ·intro W hW
   go_split_ands
   go_simp
  refine wT 3 (.pointer (some ⟨g6,2,none⟩)) rfl (Or.inl ⟨by rfl,?_⟩) ⟨un HS0,trivial⟩ ?_
  ·intro W hW
   go_split_ands
   go_simp
  refine wT 4 (.agg #[I (nc:Int),I (nd:Int)]) rfl (Or.inl ⟨by rfl,?_⟩) ⟨un HS0,trivial⟩ ?_
  ·intro W hW
   go_split_ands
   go_simp
  refine wO 2 rfl rfl (fun K hK=>?_)
  go_simp
  refine(un HFF _ (un HTD _ ((Below.refl _ _).drew))).mono ?_;rintro e wa ⟨va,rfl,hva,hba⟩;obtain⟨b,a1,l1,c1,a2,l2,c2,rfl⟩:=hva.form;have HBA:Hid (Bw U wa):=(Below.refl _ _).drew.trans (hba.mono (Below.refl U.heap.size U).drew.size);have HSA:=zAb (un HSS wa (un HBA));have HVA:=zAb hva;clear hba hva;refine hK _ _ ⟨un HSA,trivial⟩ ?_;clear hK K;refine wO 5 rfl rfl (fun K hK=>?_)
  go_simp
  refine(un HFO _ (un HTD _ (un HBA))).mono ?_;rintro e wc ⟨vc,rfl,hvc,hbc⟩;obtain⟨c,a3,l3,c3,a4,l4,c4,rfl⟩:=hvc.form;have HBC:Hid (Bw U wc):=bt HBA hbc;have HSC:=zAb (un HSS wc (un HBC));have HVC:=zAb hvc;have HVA2:=zAb ((un HVA).later hbc);have HZC:=zAb ((un HZU).later (un HBC));clear hbc hvc;have z0:=(un HZC).c0;have z1:=(un HZC).c1;have z2:=(un HZC).c2;have z3:=(un HZC).c3;have z4:=(un HZC).c4;have z5:=(un HZC).c5;have f0:=(un HZC).f0;have f1:=(un HZC).f1;have f2:=(un HZC).f2;have f3:=(un HZC).f3;have f4:=(un HZC).f4;have f5:=(un HZC).f5;refine hK _ _ ⟨un HSC,trivial⟩ ?_;clear hK K;refine wO 6 rfl rfl (fun K hK=>?_)
  go_simp
  refine hK _ _ ⟨un HSC,trivial⟩ ?_;clear hK K;refine wL 7 rfl rfl (fun K hK=>?_)
  go_simp
  refine hK _ _ trivial ?_;clear hK K;refine wL 8 rfl rfl (fun K hK=>?_)
  go_simp
  refine hK _ _ trivial ?_;clear hK K;refine wDn ?_
  go_wp2_with fail
  have hS:=(un HZC).store (.bool b) (.slice a1 l1 c1) (.slice a2 l2 c2) (.bool c) (.slice a3 l3 c3) (.slice a4 l4 c4);have v0:=hS.c0;have v1:=hS.c1;have v2:=hS.c2;have v3:=hS.c3;have v4:=hS.c4;have v5:=hS.c5;exact bodyPost_ret (v:=.tuple #[.agg #[.bool b,.slice a1 l1 c1,.slice a2 l2 c2,.bool c,.slice a3 l3 c3,.slice a4 l4 c4],.bool true]) (w:=zBg wc w.heap.size (.bool b) (.slice a1 l1 c1) (.slice a2 l2 c2) (.bool c) (.slice a3 l3 c3) (.slice a4 l4 c4)) (by simp[results,Tryz.results51,go_sem,v0,v1,v2,v3,v4,v5]) rfl ⟨_,rfl,un HOUT b c a1 a2 a3 a4 l1 c1 l2 c2 l3 c3 l4 c4 _ ((un HVA2).six (un HZC) _ _ _ _ _ _) ((un HVC).six (un HZC) _ _ _ _ _ _),zEs ((un HBW).trans ((un HBC).mono (un HBW).size)) (Nat.le_refl _) _ _ _ _ _ _⟩
 ·have HFN:=zAb hfn
  clear hfn HFD;obtain⟨Y,hY⟩:∃Y,Y=w3.alloc (.cells #[G #[],G #[],.nilFunc] 69):=⟨_,rfl⟩;have HBY:Hid (Bw V Y):=by rw[hY];exact(un HB3).alloc (un HB3).size _
  rw[←hY];clear hY;generalize w3.heap.size=g3 at *
  have HZY:=zAb ((un HZ).later (un HBY));have z0:=(un HZY).c0;have z1:=(un HZY).c1;have z2:=(un HZY).c2;have z3:=(un HZY).c3;have z4:=(un HZY).c4;have z5:=(un HZY).c5;have f0:=(un HZY).f0;have f1:=(un HZY).f1;have f2:=(un HZY).f2;have f3:=(un HZY).f3;have f4:=(un HZY).f4;have f5:=(un HZY).f5
  go_wp2_with fail
  have hS:=(un HZY).store (.bool false) (.slice none 0 0) (.slice none 0 0) (.bool false) (.slice none 0 0) (.slice none 0 0);have v0:=hS.c0;have v1:=hS.c1;have v2:=hS.c2;have v3:=hS.c3;have v4:=hS.c4;have v5:=hS.c5;exact bodyPost_ret (v:=.tuple #[.agg #[.bool false,.slice none 0 0,.slice none 0 0,.bool false,.slice none 0 0,.slice none 0 0],.bool false]) (w:=zBg Y w.heap.size (.bool false) (.slice none 0 0) (.slice none 0 0) (.bool false) (.slice none 0 0) (.slice none 0 0)) (by simp[results,Tryz.results51,go_sem,v0,v1,v2,v3,v4,v5]) rfl ⟨_,rfl,Or.inr ⟨un HFN,rfl⟩,zEs ((un HB).trans ((un HBY).mono (un HB).size)) (Nat.le_refl _) _ _ _ _ _ _⟩
end Go.Proofs.YtliadckofhblnaaGreatDoor.Tm

/- The units of si: each is right and new. -/
import Derived.Test.YtliadckofhblnaaGreatDoorLimb3
import Derived.Test.YtliadckofhblnaaGreatDoorRegAdd
import Derived.Carry
import Derived.Laws.OwnMore
import Derived.Lib.SmallJoins
import Derived.Test.YtliadckofhblnaaGreatDoorPutUnit
import Derived.Test.YtliadckofhblnaaGreatDoorFindS
set_option maxHeartbeats 4000000
set_option maxRecDepth 100000
namespace Go.Proofs.YtliadckofhblnaaGreatDoor
open Go.RowKit Go.Maps Go.ChangeMaps Go.WideMaps
variable {K:Nat→Nat→Array Value→Prop}
theorem RG.c3 {W:World} {base r m n:Nat} {vs:Value} {ps:List Nat} {us:List (Array Value)} {D:DataW Unit} (h:RG W K base r m vs ps us n D):W.cell? ⟨r,3,none⟩=some (.bool false):=h.k0.ub.c 3 _ rfl
theorem RG.c2 {W:World} {base r m n:Nat} {vs:Value} {ps:List Nat} {us:List (Array Value)} {D:DataW Unit} (h:RG W K base r m vs ps us n D):W.cell? ⟨r,2,none⟩=some (.map (some m)):=h.k0.ub.c 2 _ rfl
theorem RG.c0 {W:World} {base r m n:Nat} {vs:Value} {ps:List Nat} {us:List (Array Value)} {D:DataW Unit} (h:RG W K base r m vs ps us n D):W.cell? ⟨r,0,none⟩=some vs:=h.k0.ub.c 0 _ rfl
theorem take_any (nm sy fn fd on od:ByteArray) (d0 d1 d2 d3 d4 d5 d6 d7 tk:Int) (base r m n gs gu gr:Nat) (vs:Value) (ps:List Nat) (us:List (Array Value)) (D:DataW Unit) (w0 w:World) (h:RG w K base r m vs ps us n D) (hlen:us.length=ps.length) (hb0:Below base w0 w) (hmb:base≤m) (hrb:base≤r) (hn:n+2<1000000) (hps:ps.length<500)
 (hs1:nm.size≤maxLen) (hs2:sy.size≤maxLen)
 (cs0:w.cell? ⟨gs,0,none⟩=some (.string nm)) (cs1:w.cell? ⟨gs,1,none⟩=some (.string sy)) (hgs:gs<w.heap.size) (hu:zAc w gu 30 #[.string nm,.string sy,I d0,I d1,I d2,I d3,I d4,I d5,I d6,I d7,.string fn,.string fd,.string on,.string od,I tk]) (cr:w.cell? ⟨gr,0,none⟩=some (.pointer (some ⟨r,0,none⟩))) (hgr:gr<w.heap.size)
 (h23:∀W,Below w.heap.size w W→Calls Tryz.prog 96 #[.agg #[.string nm,.string sy,I d0,I d1,I d2,I d3,I d4,I d5,I d6,I d7,.string fn,.string fd,.string on,.string od,I tk]] W fun r w'=>r=.returned (.bool true)∧Bw W w')
 (hn1:Maps.has D (.string nm.data.toList)=false) (hn2:Maps.has D (.string sy.data.toList)=false) :
 Calls Tryz.prog 94 #[.pointer (some ⟨r,0,none⟩),.agg #[.slice (some ⟨gs,0,none⟩) 2 2,.func (.func 95) #[] #[.pointer (some ⟨gu,0,none⟩)],.func (.func 97) #[] #[.pointer (some ⟨gr,0,none⟩)],.func (.func 99) #[] #[.pointer (some ⟨gr,0,none⟩),.pointer (some ⟨gu,0,none⟩)]]] w fun e w'=>e=.returned (I 0)∧(∃p v',RG w' K base r m v' (ps ++ [p]) (us ++ [#[.string nm,.string sy,I d0,I d1,I d2,I d3,I d4,I d5,I d6,I d7,.string fn,.string fd,.string on,.string od,I tk]]) (n+2) ((D.put (.string nm.data.toList) (.lit (.bool true))).put (.string sy.data.toList) (.lit (.bool true))))∧Below base w0 w':=by
 obtain⟨av,cv,rfl⟩:=row_len h.row;obtain⟨V,hV⟩:∃V,V=w.alloc (.cells #[.slice (some ⟨gs,0,none⟩) 2 2,.func (.func 95) #[] #[.pointer (some ⟨gu,0,none⟩)],.func (.func 97) #[] #[.pointer (some ⟨gr,0,none⟩)],.func (.func 99) #[] #[.pointer (some ⟨gr,0,none⟩),.pointer (some ⟨gu,0,none⟩)]] 124):=⟨_,rfl⟩;have hbV:Below w.heap.size w V:=by rw[hV];exact bA
 have HA:Hid (zAc V w.heap.size 124 #[.slice (some ⟨gs,0,none⟩) 2 2,.func (.func 95) #[] #[.pointer (some ⟨gu,0,none⟩)],.func (.func 97) #[] #[.pointer (some ⟨gr,0,none⟩)],.func (.func 99) #[] #[.pointer (some ⟨gr,0,none⟩),.pointer (some ⟨gu,0,none⟩)]]):=by rw[hV];exact zAc.new _ _ _
 obtain⟨g3,hg3⟩:∃g3,g3=w.heap.size:=⟨_,rfl⟩;have HR0:=zAb (h.later hbV);have HB0:Hid (Below base w0 V):=hb0.trans (hbV.mono h.bs)
 have HC0:Hid (∀W,Below V.heap.size V W→W.cell? ⟨gs,0,none⟩=some (.string nm)∧W.cell? ⟨gs,1,none⟩=some (.string sy)∧W.cell? ⟨gr,0,none⟩=some (.pointer (some ⟨r,0,none⟩))):=fun W hW=>
  have hb:=hbV.trans (hW.mono hbV.size)
  ⟨(hb.cell (p:=⟨gs,0,none⟩) hgs).trans cs0,(hb.cell (p:=⟨gs,1,none⟩) hgs).trans cs1,(hb.cell (p:=⟨gr,0,none⟩) hgr).trans cr⟩
 have HU0:=zAb (hu.later hbV);have H23:Hid (∀W,Below V.heap.size V W→Calls Tryz.prog 96 #[.agg #[.string nm,.string sy,I d0,I d1,I d2,I d3,I d4,I d5,I d6,I d7,.string fn,.string fd,.string on,.string od,I tk]] W fun r w'=>r=.returned (.bool true)∧Bw W w'):=fun W hW=>h23 W (hbV.trans (hW.mono hbV.size))
 have HLN:=zAb hlen;have HV:=zAb hV;have HN1:=zAb hn1;have HN2:=zAb hn2;have HZ:Hid (base≤V.heap.size):=(un HR0).bs;clear h hbV hb0 hV hlen cs0 cs1 hgs hu cr hgr h23 hn1 hn2;go_enter Tryz.func94,Tryz.ntmps94
 go_upto_region 1 with fail
 rw[←un HV,←hg3];rw[←hg3]at HA;clear HV hg3;have a0:V.cell? ⟨g3,0,none⟩=some (.slice (some ⟨gs,0,none⟩) 2 2):=(un HA).ub.c 0 _ rfl;have a1:V.cell? ⟨g3,1,none⟩=some (.func (.func 95) #[] #[.pointer (some ⟨gu,0,none⟩)]):=(un HA).ub.c 1 _ rfl
 go_upto_region 6 with (first
  | (go_at_call 168;go_must(refine(closed_any _ _ (un HR0).c3).mono ?_;rintro e W1 ⟨rfl,hw⟩;obtain rfl:V=W1:=hw.symm;clear hw))
  | (go_at_call 95;go_must(refine(add1_any nm sy fn fd on od d0 d1 d2 d3 d4 d5 d6 d7 tk gu _ (un HU0) (un H23)).mono ?_;rintro e W1 ⟨rfl,hb⟩;have HBW:=zAb hb;clear hb a0 a1)))
 have HR1:=zAb ((un HR0).later (un HBW));have HA1:=zAb ((un HA).later (un HBW));have HU1:=zAb ((un HU0).later (un HBW));have HB1:Hid (Below base w0 W1):=(un HB0).trans ((un HBW).mono (un HZ));have HC1:Hid (∀W,Below W1.heap.size W1 W→W.cell? ⟨gs,0,none⟩=some (.string nm)∧W.cell? ⟨gs,1,none⟩=some (.string sy)∧W.cell? ⟨gr,0,none⟩=some (.pointer (some ⟨r,0,none⟩))):=fun W hW=>un HC0 W (bt HBW hW)
 clear HR0 HA HU0 HB0 HC0 H23 HBW HZ;have a0:W1.cell? ⟨g3,0,none⟩=some (.slice (some ⟨gs,0,none⟩) 2 2):=(un HA1).ub.c 0 _ rfl
 go_upto_region 7 with fail
 clear a0
 go_loopw [23] (fun s23 wr=>(s23=I 0∨s23=I 1∨s23=I 2)∧Hid (Bw W1 wr)) (fun s23 _=>2 - (intOf s23).toNat)
 case atStart=>exact⟨Or.inl rfl,Below.refl _ _⟩
 case round=>
  obtain⟨hs,HB⟩:=hrel;have hr2:=((un HR1).later (un HB)).c2;rcases hs with rfl|rfl|rfl
  ·have cg:=(un HC1 _ (un HB)).1
   have hlk:=zFg ((un HR1).later (un HB)).mp nm hs1 (un HN1)
   go_wp2_with fail
   go_roundw
   case rel=>exact⟨Or.inr (Or.inl rfl),(un HB).alloc (un HB).size _⟩
   case measure=>simp[intOf]
  ·have cg:=(un HC1 _ (un HB)).2.1
   have hlk:=zFg ((un HR1).later (un HB)).mp sy hs2 (un HN2)
   go_wp2_with fail
   go_roundw
   case rel=>exact⟨Or.inr (Or.inr rfl),(un HB).alloc (un HB).size _⟩
   case measure=>simp[intOf]
  ·have HR2:=zAb ((un HR1).later (un HB))
   have HA2:=zAb ((un HA1).later (un HB));have HU2:=zAb ((un HU1).later (un HB));have HB2:Hid (Below base w0 wr):=(un HB1).trans ((un HB).mono (un HR1).bs);have cgr:=(un HC1 _ (un HB)).2.2;have a2:wr.cell? ⟨g3,2,none⟩=some (.func (.func 97) #[] #[.pointer (some ⟨gr,0,none⟩)]):=(un HA2).ub.c 2 _ rfl;have a3:wr.cell? ⟨g3,3,none⟩=some (.func (.func 99) #[] #[.pointer (some ⟨gr,0,none⟩),.pointer (some ⟨gu,0,none⟩)]):=(un HA2).ub.c 3 _ rfl
   have H27:Hid (Calls Tryz.prog 100 #[.pointer (some ⟨r,0,none⟩),.agg #[.string nm,.string sy,I d0,I d1,I d2,I d3,I d4,I d5,I d6,I d7,.string fn,.string fd,.string on,.string od,I tk]] wr fun e w'=>(∃p:Nat,e=.returned (.pointer (some ⟨p,0,none⟩)))∧((∃p v',RG w' K base r m v' (ps ++ [p]) (us ++ [#[.string nm,.string sy,I d0,I d1,I d2,I d3,I d4,I d5,I d6,I d7,.string fn,.string fd,.string on,.string od,I tk]]) (n+2) ((D.put (.string nm.data.toList) (.lit (.bool true))).put (.string sy.data.toList) (.lit (.bool true))))∧Below base w0 w')) :=
    (putUnit_any nm sy fn fd on od d0 d1 d2 d3 d4 d5 d6 d7 tk base r m n _ ps us D w0 wr (un HR2) (un HLN) (un HB2) hmb hrb hn (by omega) hs1 hs2).mono (fun e w' hh=>by
     obtain⟨⟨p,v',e1,h2⟩,h3⟩:=hh;exact⟨⟨p,e1⟩,⟨p,v',h2⟩,h3⟩)
   clear hr2
   go_wp2_with (first
    | (go_at_call 97;go_must(refine(add2_any gr r ps.length av cv _ (by omega) cgr (un HR2).c0).mono ?_;rintro e W2 ⟨rfl,hw⟩;obtain rfl:wr=W2:=hw.symm;clear hw))
    | (go_at_call 99;go_must(refine(add3_any nm sy fn fd on od d0 d1 d2 d3 d4 d5 d6 d7 tk gr gu r _ _ cgr (un HU2) (un H27)).mono ?_;rintro e W2 ⟨rfl,hq⟩;have HQ:=zAb hq;clear hq cgr a2 a3)))
   go_ret
   exact⟨rfl,(un HQ).1,(un HQ).2⟩
end Go.Proofs.YtliadckofhblnaaGreatDoor
namespace Go.Proofs.YtliadckofhblnaaGreatDoor
open Go.RowKit Go.Maps Go.ChangeMaps Go.WideMaps
variable {K:Nat→Nat→Array Value→Prop}
theorem new_any (w:World):Calls Tryz.prog 32 #[] w fun e w'=>e=.returned (.pointer (some ⟨w.heap.size+1,0,none⟩))∧RG w' (fun _ _ _=>False) w.heap.size (w.heap.size+1) w.heap.size (.slice none 0 0) [] [] 0 (.map [])∧Bw w w':=by
 have hmm:=@run_makeMap Tryz.prog;go_enter Tryz.func32,Tryz.ntmps32
 go_wp2_with fail
 go_ret
 have hm:=World.ownsMap_made (H:=Unit) w Tryz.prog 9 Rm;refine⟨by simp,⟨?_,?_,hm.alloc _,?_,?_,fun _ _ _ h=>h.elim⟩,?_⟩
 ·have h:=zAc.new (w.alloc (.map #[] 0)) #[.slice none 0 0,.slice none 0 0,.map (some w.heap.size),.bool false] 116
  rw[Dm.size_alloc]at h;exact h
 ·exact World.ownsRow_nil _ _ _ _
 ·intro i p u h1 _
  simp at h1
 ·simp
  omega
 ·exact bA.alloc (by simp) _
theorem add_any (nm sy fn fd on od:ByteArray) (d0 d1 d2 d3 d4 d5 d6 d7 tk:Int) (base r m n:Nat) (vs:Value) (ps:List Nat) (us:List (Array Value)) (D:DataW Unit) (w0 w:World) (h:RG w K base r m vs ps us n D) (hlen:us.length=ps.length) (hb0:Below base w0 w) (hmb:base≤m) (hrb:base≤r) (hn:n+2<1000000) (hps:ps.length<500)
  (hs1:nm.size≤maxLen) (hs2:sy.size≤maxLen)
  (h23:∀W,Below w.heap.size w W→Calls Tryz.prog 96 #[.agg #[.string nm,.string sy,I d0,I d1,I d2,I d3,I d4,I d5,I d6,I d7,.string fn,.string fd,.string on,.string od,I tk]] W fun r w'=>r=.returned (.bool true)∧Bw W w')
  (hn1:Maps.has D (.string nm.data.toList)=false) (hn2:Maps.has D (.string sy.data.toList)=false) :
  Calls Tryz.prog 35 #[.pointer (some ⟨r,0,none⟩),.agg #[.string nm,.string sy,I d0,I d1,I d2,I d3,I d4,I d5,I d6,I d7,.string fn,.string fd,.string on,.string od,I tk]] w fun e w'=>e=.returned (I 0)∧(∃p v',RG w' K base r m v' (ps ++ [p]) (us ++ [#[.string nm,.string sy,I d0,I d1,I d2,I d3,I d4,I d5,I d6,I d7,.string fn,.string fd,.string on,.string od,I tk]]) (n+2) ((D.put (.string nm.data.toList) (.lit (.bool true))).put (.string sy.data.toList) (.lit (.bool true))))∧Below base w0 w':=by
 obtain⟨V,hV⟩:∃V,V=(w.alloc (.cells #[.pointer (some ⟨r,0,none⟩)] 50)).alloc (.cells #[.string nm,.string sy,I d0,I d1,I d2,I d3,I d4,I d5,I d6,I d7,.string fn,.string fd,.string on,.string od,I tk] 30):=⟨_,rfl⟩;have hbV:Below w.heap.size w V:=by rw[hV];exact bA.alloc (by simp) _
 have HP0:Hid (zAc V w.heap.size 50 #[.pointer (some ⟨r,0,none⟩)]):=by rw[hV];exact(zAc.new _ _ _).alloc _
 have HU0:Hid (zAc V (w.heap.size+1) 30 #[.string nm,.string sy,I d0,I d1,I d2,I d3,I d4,I d5,I d6,I d7,.string fn,.string fd,.string on,.string od,I tk]):=by rw[hV];have h:=zAc.new (w.alloc (.cells #[.pointer (some ⟨r,0,none⟩)] 50)) #[.string nm,.string sy,I d0,I d1,I d2,I d3,I d4,I d5,I d6,I d7,.string fn,.string fd,.string on,.string od,I tk] 30;rw[Dm.size_alloc]at h;exact h
 have HR0:=zAb (h.later hbV);have HB0:Hid (Below base w0 V):=hb0.trans (hbV.mono h.bs);have H23:Hid (∀W,Below V.heap.size V W→Calls Tryz.prog 96 #[.agg #[.string nm,.string sy,I d0,I d1,I d2,I d3,I d4,I d5,I d6,I d7,.string fn,.string fd,.string on,.string od,I tk]] W fun r w'=>r=.returned (.bool true)∧Bw W w'):=fun W hW=>h23 W (hbV.trans (hW.mono hbV.size))
 have HLN:=zAb hlen;have HV:=zAb hV;have HN1:=zAb hn1;have HN2:=zAb hn2;obtain⟨g2,hg2⟩:∃g2,g2=w.heap.size:=⟨_,rfl⟩;obtain⟨g3,hg3⟩:∃g3,g3=w.heap.size+1:=⟨_,rfl⟩;clear h hbV hb0 hV hlen h23 hn1 hn2;go_enter Tryz.func35,Tryz.ntmps35
 go_upto_region 1 with fail
 rw[←un HV,←hg3,←hg2];rw[←hg2]at HP0;rw[←hg3]at HU0;clear HV hg2 hg3;have p0:V.cell? ⟨g2,0,none⟩=some (.pointer (some ⟨r,0,none⟩)):=(un HP0).ub.c 0 _ rfl;have u0:V.cell? ⟨g3,0,none⟩=some (.string nm):=(un HU0).ub.c 0 _ rfl;have u1:V.cell? ⟨g3,1,none⟩=some (.string sy):=(un HU0).ub.c 1 _ rfl;have hbA:Below V.heap.size V (V.alloc (.cells #[.string nm,.string sy] 9)):=bA;have HS:Hid (zAc (V.alloc (.cells #[.string nm,.string sy] 9)) V.heap.size 9 #[.string nm,.string sy]):=zAc.new _ _ _
 have HTK:Hid (Calls Tryz.prog 94 #[.pointer (some ⟨r,0,none⟩),.agg #[.slice (some ⟨V.heap.size,0,none⟩) 2 2,.func (.func 95) #[] #[.pointer (some ⟨g3,0,none⟩)],.func (.func 97) #[] #[.pointer (some ⟨g2,0,none⟩)],.func (.func 99) #[] #[.pointer (some ⟨g2,0,none⟩),.pointer (some ⟨g3,0,none⟩)]]] (V.alloc (.cells #[.string nm,.string sy] 9)) fun e w'=>e=.returned (I 0)∧(∃p v',RG w' K base r m v' (ps ++ [p]) (us ++ [#[.string nm,.string sy,I d0,I d1,I d2,I d3,I d4,I d5,I d6,I d7,.string fn,.string fd,.string on,.string od,I tk]]) (n+2) ((D.put (.string nm.data.toList) (.lit (.bool true))).put (.string sy.data.toList) (.lit (.bool true))))∧Below base w0 w') :=
  take_any nm sy fn fd on od d0 d1 d2 d3 d4 d5 d6 d7 tk base r m n V.heap.size g3 g2 vs ps us D w0 _ ((un HR0).later hbA) (un HLN) ((un HB0).trans (hbA.mono (un HR0).bs)) hmb hrb hn hps hs1 hs2
   ((un HS).ub.c 0 _ rfl) ((un HS).ub.c 1 _ rfl) (un HS).lt ((un HU0).later hbA) (((un HP0).later hbA).ub.c 0 _ rfl) ((un HP0).later hbA).lt (fun W hW=>un H23 W (hbA.trans (hW.mono hbA.size))) (un HN1) (un HN2)
 clear hbA
 go_wp2_with (go_at_call 94;go_must(refine(un HTK).mono ?_;rintro e W1 ⟨rfl,hq⟩;have HQ:=zAb hq;clear hq p0 u0 u1))
 go_ret
 exact⟨rfl,un HQ⟩
end Go.Proofs.YtliadckofhblnaaGreatDoor
namespace Go.Proofs.YtliadckofhblnaaGreatDoor
open Go.RowKit Go.Maps Go.ChangeMaps Go.WideMaps
variable {K:Nat→Nat→Array Value→Prop}
theorem info30:(Tryz.prog.info? 30).map (fun i=>(i.zero,i.size,i.bytes))=some (some (.agg #[G #[],G #[],I 0,I 0,I 0,I 0,I 0,I 0,I 0,I 0,G #[],G #[],G #[],G #[],I 0]),15,168):=by kernel_rfl
theorem under22u:Tryz.prog.underlying 22=some (.slice 30):=by kernel_rfl
def IsU (u:Array Value):Prop:=∃(nm sy fn fd on od:ByteArray) (d0 d1 d2 d3 d4 d5 d6 d7 tk:Int),u=#[.string nm,.string sy,I d0,I d1,I d2,I d3,I d4,I d5,I d6,I d7,.string fn,.string fd,.string on,.string od,I tk]
def flatU (us:List (Array Value)) (k:Nat):List Value:=(us.take k).flatMap Array.toList
theorem flatU_succ (us:List (Array Value)) (k:Nat) (u:Array Value) (h:us[k]?=some u):flatU us (k+1)=flatU us k ++ u.toList:=by
 unfold flatU;rw[List.take_add_one,List.flatMap_append,h];simp
theorem news15 (W:World) (x0 x1 x2 x3 x4 x5 x6 x7 x8 x9 x10 x11 x12 x13 x14:Value) (ty:Nat):∀j u,[x0,x1,x2,x3,x4,x5,x6,x7,x8,x9,x10,x11,x12,x13,x14][j]?=some u→(W.alloc (.cells #[x0,x1,x2,x3,x4,x5,x6,x7,x8,x9,x10,x11,x12,x13,x14] ty)).cell? ((⟨W.heap.size,0,none⟩:Addr).add j)=some u:=by
 intro j u hu;have h:=(zAc.new W #[x0,x1,x2,x3,x4,x5,x6,x7,x8,x9,x10,x11,x12,x13,x14] ty).ub.c j u (by simpa using hu);have e:(⟨W.heap.size,0,none⟩:Addr).add j=⟨W.heap.size,j,none⟩:=by by_cases hj:j=0<;>simp[Addr.add,hj]
 rw[e];exact h
theorem one15 (nm sy fn fd on od:ByteArray) (d0 d1 d2 d3 d4 d5 d6 d7 tk:Int):∀u∈([.string nm,.string sy,I d0,I d1,I d2,I d3,I d4,I d5,I d6,I d7,.string fn,.string fd,.string on,.string od,I tk]:List Value),u.oneCell'=true:=by
 intro u hu;simp only[List.mem_cons,List.not_mem_nil,or_false]at hu;rcases hu with rfl|rfl|rfl|rfl|rfl|rfl|rfl|rfl|rfl|rfl|rfl|rfl|rfl|rfl|rfl<;>rfl
theorem units_any (base r m n:Nat) (vs:Value) (ps:List Nat) (us:List (Array Value)) (D:DataW Unit) (w:World) (h:RG w K base r m vs ps us n D) (hlen:us.length=ps.length) (h0:0<ps.length) (hps:ps.length<500) (hU:∀(k:Nat) u,us[k]?=some u→IsU u) :
 Calls Tryz.prog 37 #[.pointer (some ⟨r,0,none⟩)] w fun e w'=>∃v,e=.returned v∧w'.ownsRow w.heap.size 30 15 v ps.length (flatU us ps.length)∧Bw w w':=by
 obtain⟨i0,hi,hz0,hz1,hz2⟩:=info_parts info30;obtain⟨g,cap,rfl⟩:=Joins.ownsRow_form h.row h0;have c0:=h.c0
 have HC:Hid (∀W,Below w.heap.size w W→∀k p,ps[k]?=some p→W.cell? ⟨g,k,none⟩=some (.pointer (some ⟨p,0,none⟩))):=fun W hW k p hk=>by
  have hg:=(h.row.lt g rfl).2;rw[hW.cell (p:=⟨g,k,none⟩) hg,h.row.cellAt k (by have:=(List.getElem?_eq_some_iff.1 hk).1;omega)];simp[hk]
 have HR:=zAb h;have HL:=zAb hlen;obtain⟨N,hN⟩:∃N,N=ps.length:=⟨_,rfl⟩;rw[←hN]at h0 hps ⊢ c0;have HN:=zAb hN;have HUU:=zAb hU;clear h hlen hN hU;go_enter Tryz.func37,Tryz.ntmps37
 go_upto_region 5 with fail
 go_loopw [3,13] (fun s3 s13 wr=>∃(k:Nat) (v:Value),k≤N∧v=s3∧s13=I (k:Int)∧Hid (wr.ownsRow w.heap.size 30 15 v k (flatU us k))∧Hid (Bw w wr)) (fun _ s13 _=>N - (intOf s13).toNat)
 case atStart=>exact⟨0,_,by omega,rfl,rfl,World.ownsRow_nil _ _ _ _,Below.refl _ _⟩
 case round=>
  obtain⟨k,v,hk,rfl,rfl,HO,HB⟩:=hrel;clear c0
  by_cases hlt:k<N
  ·have hkI:(k:Int)<N:=by omega
   have hk0:(0:Int)≤(k:Int):=by omega
   obtain⟨p,hp⟩:∃p,ps[k]?=some p:=⟨_,List.getElem?_eq_getElem (by rw[←un HN];exact hlt)⟩;obtain⟨u,hu⟩:∃u,us[k]?=some u:=⟨_,List.getElem?_eq_getElem (by rw[un HL,←un HN];exact hlt)⟩;have HF:=zAb (flatU_succ us k u hu);obtain⟨nm,sy,fn,fd,on,od,d0,d1,d2,d3,d4,d5,d6,d7,tk,rfl⟩:=un HUU k u hu;have cg:=un HC wr (un HB) k p hp;have u0:wr.cell? ⟨p,0,none⟩=some (.string nm):=((un HR).un k p _ hp hu |>.later (un HB)).ub.c 0 _ rfl;have u1:wr.cell? ⟨p,1,none⟩=some (.string sy):=((un HR).un k p _ hp hu |>.later (un HB)).ub.c 1 _ rfl;have u2:wr.cell? ⟨p,2,none⟩=some (I d0):=((un HR).un k p _ hp hu |>.later (un HB)).ub.c 2 _ rfl;have u3:wr.cell? ⟨p,3,none⟩=some (I d1):=((un HR).un k p _ hp hu |>.later (un HB)).ub.c 3 _ rfl;have u4:wr.cell? ⟨p,4,none⟩=some (I d2):=((un HR).un k p _ hp hu |>.later (un HB)).ub.c 4 _ rfl;have u5:wr.cell? ⟨p,5,none⟩=some (I d3):=((un HR).un k p _ hp hu |>.later (un HB)).ub.c 5 _ rfl;have u6:wr.cell? ⟨p,6,none⟩=some (I d4):=((un HR).un k p _ hp hu |>.later (un HB)).ub.c 6 _ rfl;have u7:wr.cell? ⟨p,7,none⟩=some (I d5):=((un HR).un k p _ hp hu |>.later (un HB)).ub.c 7 _ rfl;have u8:wr.cell? ⟨p,8,none⟩=some (I d6):=((un HR).un k p _ hp hu |>.later (un HB)).ub.c 8 _ rfl;have u9:wr.cell? ⟨p,9,none⟩=some (I d7):=((un HR).un k p _ hp hu |>.later (un HB)).ub.c 9 _ rfl;have u10:wr.cell? ⟨p,10,none⟩=some (.string fn):=((un HR).un k p _ hp hu |>.later (un HB)).ub.c 10 _ rfl;have u11:wr.cell? ⟨p,11,none⟩=some (.string fd):=((un HR).un k p _ hp hu |>.later (un HB)).ub.c 11 _ rfl;have u12:wr.cell? ⟨p,12,none⟩=some (.string on):=((un HR).un k p _ hp hu |>.later (un HB)).ub.c 12 _ rfl;have u13:wr.cell? ⟨p,13,none⟩=some (.string od):=((un HR).un k p _ hp hu |>.later (un HB)).ub.c 13 _ rfl;have u14:wr.cell? ⟨p,14,none⟩=some (I tk):=((un HR).un k p _ hp hu |>.later (un HB)).ub.c 14 _ rfl;clear hp hu
   go_upto_region 7 with fail
   go_wp2_with (at_builtin;go_must(refine wpList_append_own _ rfl _ _ 22 rfl w.heap.size 30 i0 (.agg #[G #[],G #[],I 0,I 0,I 0,I 0,I 0,I 0,I 0,I 0,G #[],G #[],G #[],G #[],I 0]) 15 168 under22u hi hz0 hz1 hz2 rfl (by decide) _ k (flatU us k) rfl ((un HO).alloc _) ⟨wr.heap.size,0,none⟩ 1 1 [.string nm,.string sy,I d0,I d1,I d2,I d3,I d4,I d5,I d6,I d7,.string fn,.string fd,.string on,.string od,I tk] rfl rfl (news15 _ _ _ _ _ _ _ _ _ _ _ _ _ _ _ _ _) (one15 _ _ _ _ _ _ _ _ _ _ _ _ _ _ _) (by unfold maxLen;omega) (by omega) (by have h1:=(un HB).size;simp;omega) ?_;intro v2 wa hown hgrow hnil;have HOW:=zAb hown;have HB4:Hid (Bw w wa):=((un HB).alloc (un HB).size _).grown hgrow (by have h1:=(un HB).size;simp;omega) (fun j hj=>((un HO).lt j hj).1);clear hown hgrow hnil cg u0 u1 u2 u3 u4 u5 u6 u7 u8 u9 u10 u11 u12 u13 u14))
   go_roundw
   case rel=>
    refine⟨k+1,v2,by omega,rfl,by go_num,?_,HB4⟩;have h:=un HOW;rw[show flatU us k ++ [.string nm,.string sy,I d0,I d1,I d2,I d3,I d4,I d5,I d6,I d7,.string fn,.string fd,.string on,.string od,I tk]=flatU us (k+1)from(un HF).symm]at h;exact h
   case measure=>simp[intOf];omega
  ·have hkI:¬(k:Int)<N:=by omega
   have HK:Hid (k=N):=by show k=N;omega
   go_wp2_with fail
   go_ret
   refine⟨v,rfl,?_,un HB⟩;have h:=un HO;rw[un HK]at h;exact h
end Go.Proofs.YtliadckofhblnaaGreatDoor
namespace Go.Proofs.YtliadckofhblnaaGreatDoor
open Go.RowKit Go.Maps Go.ChangeMaps Go.WideMaps
def lgB (s:ByteArray):Nat→Nat→Int→List UInt8→Bool
 | 0,_,_,_=>false
 | n+1,p,f,acc=>if p<s.size then Nm.contB p f (Utf8.decode s p).1 && lgB s n (p+(Utf8.decode s p).2) (Nm.firstOf p f (Utf8.decode s p).1) (acc ++ Lib.encodeRune (Nm.foldR (Utf8.decode s p).1))else decide (acc=s.data.toList) && decide (p=s.size)
theorem lgB_sound {s:ByteArray}:∀(n p:Nat) (f:Int) (acc:List UInt8),lgB s n p f acc=true→Nm.Lg s p f acc s.data.toList s.size
 | 0,_,_,_,h=>by cases h
 | n+1,p,f,acc,h=>by
  unfold lgB at h
  split at h
  ·rw[Bool.and_eq_true]at h
   exact lg_step _ _ _ (by assumption) h.1 rfl rfl rfl (lgB_sound n _ _ _ h.2)
  ·rw[Bool.and_eq_true,decide_eq_true_eq,decide_eq_true_eq]at h
   obtain⟨rfl,rfl⟩:=h;exact Nm.Lg.done _ _ _ (by assumption)
def okN (s:ByteArray):Bool:=lgB s 41 0 0 [] && decide (s.size≠0) && decide (s.size≤40) && decide (s.data.toList≠[105,110])
theorem zDk {s:ByteArray} (h:okN s=true) (W:World):Calls Tryz.prog 234 #[.string s] W fun r w'=>r=.returned (.bool true)∧Bw W w':=by
 unfold okN at h
 simp only[Bool.and_eq_true,decide_eq_true_eq]at h;exact nameRight s W (lgB_sound 41 0 0 [] h.1.1.1) h.1.1.2 h.1.2 h.2
theorem dim34 (d0 d1 d2 d3 d4 d5 d6 d7:Int) (h:Dm.rightB [d0,d1,d2,d3,d4,d5,d6,d7]=true) (W:World):Calls Tryz.prog 170 #[.agg #[I d0,I d1,I d2,I d3,I d4,I d5,I d6,I d7]] W fun r w'=>r=.returned (.bool true)∧Bw W w' :=
 (Dm.right_any d0 d1 d2 d3 d4 d5 d6 d7 W).mono (by
  rintro e w' ⟨rfl,rfl⟩;exact⟨by rw[h],bA⟩)
end Go.Proofs.YtliadckofhblnaaGreatDoor

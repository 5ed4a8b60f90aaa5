/- Consts (63): what a registry of constants holds, in its order. -/
import Derived.Test.YtliadckofhblnaaGreatDoorLimb3
import Derived.Test.YtliadckofhblnaaGreatDoorNtK2
import Derived.Test.YtliadckofhblnaaGreatDoorRegAdd
import Derived.Laws.EntriesVeiled
import Derived.Carry
import Derived.Laws.OwnMore
import Derived.Lib.SmallJoins
set_option maxHeartbeats 4000000
set_option maxRecDepth 100000
namespace Go.Proofs.YtliadckofhblnaaGreatDoor.Nt
open Go.RowKit Go.Maps Go.ChangeMaps Go.WideMaps
variable {K:Nat→Nat→Array Value→Prop}
theorem keep1_any (nm sy vn vd sn sd ut:ByteArray) (g:Nat) (w:World) (ho:zAc w g 45 #[.string nm,.string sy,.string vn,.string vd,.string sn,.string sd,.string ut]) (h23:∀W,Below w.heap.size w W→Calls Tryz.prog 143 #[.agg #[.string nm,.string sy,.string vn,.string vd,.string sn,.string sd,.string ut]] W fun r w'=>r=.returned (.bool true)∧Bw W w') :
 Calls Tryz.prog 142 #[.pointer (some ⟨g,0,none⟩)] w fun r w'=>r=.returned (.bool true)∧Bw w w':=by
 have u0:w.cell? ⟨g,0,none⟩=some (.string nm):=ho.ub.c 0 _ rfl;have u1:w.cell? ⟨g,1,none⟩=some (.string sy):=ho.ub.c 1 _ rfl;have u2:w.cell? ⟨g,2,none⟩=some (.string vn):=ho.ub.c 2 _ rfl;have u3:w.cell? ⟨g,3,none⟩=some (.string vd):=ho.ub.c 3 _ rfl;have u4:w.cell? ⟨g,4,none⟩=some (.string sn):=ho.ub.c 4 _ rfl;have u5:w.cell? ⟨g,5,none⟩=some (.string sd):=ho.ub.c 5 _ rfl;have u6:w.cell? ⟨g,6,none⟩=some (.string ut):=ho.ub.c 6 _ rfl;have H23:=zAb h23;clear h23 ho;go_enter Tryz.func142,Tryz.ntmps142
 go_wp2_with (go_at_call 143;go_must(refine(un H23 _ (Below.refl _ _)).mono ?_;rintro e W1 ⟨rfl,hb⟩;have HB:=zAb hb;clear hb u0 u1 u2 u3 u4 u5 u6))
 go_ret
 exact⟨rfl,un HB⟩
theorem keep2_any (b r l:Nat) (a:Option Addr) (c:Nat) (w:World) (hl:l<512) (hb:w.cell? ⟨b,0,none⟩=some (.pointer (some ⟨r,0,none⟩))) (hr:w.cell? ⟨r,1,none⟩=some (.slice a l c)) :
 Calls Tryz.prog 144 #[.pointer (some ⟨b,0,none⟩)] w fun e w'=>e=.returned (I 0)∧w'=w:=by
 have hl':(l:Int)<512:=by omega
 go_enter Tryz.func144,Tryz.ntmps144
 go_wp2_with (go_at_call 98;go_must(refine(room_any _ _ hl').mono ?_;rintro e W1 ⟨rfl,rfl⟩))
 go_ret
 exact⟨rfl,rfl⟩
theorem keep3_any (nm sy vn vd sn sd ut:ByteArray) (b g r:Nat) (w:World) (Q:World→Prop) (hb:w.cell? ⟨b,0,none⟩=some (.pointer (some ⟨r,0,none⟩))) (ho:zAc w g 45 #[.string nm,.string sy,.string vn,.string vd,.string sn,.string sd,.string ut])
 (h27:Calls Tryz.prog 146 #[.pointer (some ⟨r,0,none⟩),.agg #[.string nm,.string sy,.string vn,.string vd,.string sn,.string sd,.string ut]] w fun e w'=>e=.returned (.tuple #[])∧Q w') :
 Calls Tryz.prog 145 #[.pointer (some ⟨b,0,none⟩),.pointer (some ⟨g,0,none⟩)] w fun e w'=>e=.returned (.tuple #[])∧Q w':=by
 have u0:w.cell? ⟨g,0,none⟩=some (.string nm):=ho.ub.c 0 _ rfl;have u1:w.cell? ⟨g,1,none⟩=some (.string sy):=ho.ub.c 1 _ rfl;have u2:w.cell? ⟨g,2,none⟩=some (.string vn):=ho.ub.c 2 _ rfl;have u3:w.cell? ⟨g,3,none⟩=some (.string vd):=ho.ub.c 3 _ rfl;have u4:w.cell? ⟨g,4,none⟩=some (.string sn):=ho.ub.c 4 _ rfl;have u5:w.cell? ⟨g,5,none⟩=some (.string sd):=ho.ub.c 5 _ rfl;have u6:w.cell? ⟨g,6,none⟩=some (.string ut):=ho.ub.c 6 _ rfl;have H27:=zAb h27;clear h27 ho;go_enter Tryz.func145,Tryz.ntmps145
 go_wp2_with (go_at_call 146;go_must(refine(un H27).mono ?_;rintro e W1 ⟨rfl,hq⟩;have HQ:=zAb hq;clear hq hb u0 u1 u2 u3 u4 u5 u6))
 go_end0
 exact⟨rfl,un HQ⟩
theorem RC.c3 {W:World} {base r m n:Nat} {vs:Value} {ps:List Nat} {us:List (Array Value)} {D:DataW Unit} (h:RC W K base r m vs ps us n D):W.cell? ⟨r,3,none⟩=some (.bool false):=h.k0.ub.c 3 _ rfl
theorem RC.c2 {W:World} {base r m n:Nat} {vs:Value} {ps:List Nat} {us:List (Array Value)} {D:DataW Unit} (h:RC W K base r m vs ps us n D):W.cell? ⟨r,2,none⟩=some (.map (some m)):=h.k0.ub.c 2 _ rfl
theorem RC.c1 {W:World} {base r m n:Nat} {vs:Value} {ps:List Nat} {us:List (Array Value)} {D:DataW Unit} (h:RC W K base r m vs ps us n D):W.cell? ⟨r,1,none⟩=some vs:=h.k0.ub.c 1 _ rfl
theorem takeC_any (nm sy vn vd sn sd ut:ByteArray) (base r m n gs gu gr:Nat) (vs:Value) (ps:List Nat) (us:List (Array Value)) (D:DataW Unit) (w0 w:World) (h:RC w K base r m vs ps us n D) (hlen:us.length=ps.length) (hb0:Below base w0 w) (hmb:base≤m) (hrb:base≤r) (hn:n+2<1000000) (hps:ps.length<500)
 (hs1:nm.size≤maxLen) (hs2:sy.size≤maxLen)
 (cs0:w.cell? ⟨gs,0,none⟩=some (.string nm)) (cs1:w.cell? ⟨gs,1,none⟩=some (.string sy)) (hgs:gs<w.heap.size) (hu:zAc w gu 45 #[.string nm,.string sy,.string vn,.string vd,.string sn,.string sd,.string ut]) (cr:w.cell? ⟨gr,0,none⟩=some (.pointer (some ⟨r,0,none⟩))) (hgr:gr<w.heap.size)
 (h23:∀W,Below w.heap.size w W→Calls Tryz.prog 143 #[.agg #[.string nm,.string sy,.string vn,.string vd,.string sn,.string sd,.string ut]] W fun r w'=>r=.returned (.bool true)∧Bw W w')
 (hn1:Maps.has D (.string nm.data.toList)=false) (hn2:Maps.has D (.string sy.data.toList)=false) :
 Calls Tryz.prog 94 #[.pointer (some ⟨r,0,none⟩),.agg #[.slice (some ⟨gs,0,none⟩) 2 2,.func (.func 142) #[] #[.pointer (some ⟨gu,0,none⟩)],.func (.func 144) #[] #[.pointer (some ⟨gr,0,none⟩)],.func (.func 145) #[] #[.pointer (some ⟨gr,0,none⟩),.pointer (some ⟨gu,0,none⟩)]]] w fun e w'=>e=.returned (I 0)∧(∃p v',RC w' K base r m v' (ps ++ [p]) (us ++ [#[.string nm,.string sy,.string vn,.string vd,.string sn,.string sd,.string ut]]) (n+2) ((D.put (.string nm.data.toList) (.lit (.bool true))).put (.string sy.data.toList) (.lit (.bool true))))∧Below base w0 w':=by
 obtain⟨av,cv,rfl⟩:=row_len h.row;obtain⟨V,hV⟩:∃V,V=w.alloc (.cells #[.slice (some ⟨gs,0,none⟩) 2 2,.func (.func 142) #[] #[.pointer (some ⟨gu,0,none⟩)],.func (.func 144) #[] #[.pointer (some ⟨gr,0,none⟩)],.func (.func 145) #[] #[.pointer (some ⟨gr,0,none⟩),.pointer (some ⟨gu,0,none⟩)]] 124):=⟨_,rfl⟩;have hbV:Below w.heap.size w V:=by rw[hV];exact bA
 have HA:Hid (zAc V w.heap.size 124 #[.slice (some ⟨gs,0,none⟩) 2 2,.func (.func 142) #[] #[.pointer (some ⟨gu,0,none⟩)],.func (.func 144) #[] #[.pointer (some ⟨gr,0,none⟩)],.func (.func 145) #[] #[.pointer (some ⟨gr,0,none⟩),.pointer (some ⟨gu,0,none⟩)]]):=by rw[hV];exact zAc.new _ _ _
 obtain⟨g3,hg3⟩:∃g3,g3=w.heap.size:=⟨_,rfl⟩;have HR0:=zAb (h.later hbV);have HB0:Hid (Below base w0 V):=hb0.trans (hbV.mono h.bs)
 have HC0:Hid (∀W,Below V.heap.size V W→W.cell? ⟨gs,0,none⟩=some (.string nm)∧W.cell? ⟨gs,1,none⟩=some (.string sy)∧W.cell? ⟨gr,0,none⟩=some (.pointer (some ⟨r,0,none⟩))):=fun W hW=>
  have hb:=hbV.trans (hW.mono hbV.size)
  ⟨(hb.cell (p:=⟨gs,0,none⟩) hgs).trans cs0,(hb.cell (p:=⟨gs,1,none⟩) hgs).trans cs1,(hb.cell (p:=⟨gr,0,none⟩) hgr).trans cr⟩
 have HU0:=zAb (hu.later hbV);have H23:Hid (∀W,Below V.heap.size V W→Calls Tryz.prog 143 #[.agg #[.string nm,.string sy,.string vn,.string vd,.string sn,.string sd,.string ut]] W fun r w'=>r=.returned (.bool true)∧Bw W w'):=fun W hW=>h23 W (hbV.trans (hW.mono hbV.size))
 have HLN:=zAb hlen;have HV:=zAb hV;have HN1:=zAb hn1;have HN2:=zAb hn2;have HZ:Hid (base≤V.heap.size):=(un HR0).bs;clear h hbV hb0 hV hlen cs0 cs1 hgs hu cr hgr h23 hn1 hn2;go_enter Tryz.func94,Tryz.ntmps94
 go_upto_region 1 with fail
 rw[←un HV,←hg3];rw[←hg3]at HA;clear HV hg3;have a0:V.cell? ⟨g3,0,none⟩=some (.slice (some ⟨gs,0,none⟩) 2 2):=(un HA).ub.c 0 _ rfl;have a1:V.cell? ⟨g3,1,none⟩=some (.func (.func 142) #[] #[.pointer (some ⟨gu,0,none⟩)]):=(un HA).ub.c 1 _ rfl
 go_upto_region 6 with (first
  | (go_at_call 168;go_must(refine(closed_any _ _ (un HR0).c3).mono ?_;rintro e W1 ⟨rfl,hw⟩;obtain rfl:V=W1:=hw.symm;clear hw))
  | (go_at_call 142;go_must(refine(keep1_any nm sy vn vd sn sd ut gu _ (un HU0) (un H23)).mono ?_;rintro e W1 ⟨rfl,hb⟩;have HBW:=zAb hb;clear hb a0 a1)))
 have HR1:=zAb ((un HR0).later (un HBW));have HA1:=zAb ((un HA).later (un HBW));have HU1:=zAb ((un HU0).later (un HBW));have HB1:Hid (Below base w0 W1):=(un HB0).trans ((un HBW).mono (un HZ));have HC1:Hid (∀W,Below W1.heap.size W1 W→W.cell? ⟨gs,0,none⟩=some (.string nm)∧W.cell? ⟨gs,1,none⟩=some (.string sy)∧W.cell? ⟨gr,0,none⟩=some (.pointer (some ⟨r,0,none⟩))):=fun W hW=>un HC0 W (bt HBW hW)
 clear HR0 HA HU0 HB0 HC0 H23 HBW HZ;have a0:W1.cell? ⟨g3,0,none⟩=some (.slice (some ⟨gs,0,none⟩) 2 2):=(un HA1).ub.c 0 _ rfl
 go_upto_region 7 with fail
 clear a0
 go_loopw [23] (fun s23 wr=>(s23=I 0∨s23=I 1∨s23=I 2)∧Hid (Bw W1 wr)) (fun s23 _=>2 - (intOf s23).toNat)
 case atStart=>exact⟨Or.inl rfl,Below.refl _ _⟩
 case round=>
  obtain⟨hs,HB⟩:=hrel;have hr2:=((un HR1).later (un HB)).c2;rcases hs with rfl|rfl|rfl
  ·have cg:=(un HC1 _ (un HB)).1
   have hlk:=zFg ((un HR1).later (un HB)).mp nm hs1 (un HN1)
   go_wp2_with fail
   go_roundw
   case rel=>exact⟨Or.inr (Or.inl rfl),(un HB).alloc (un HB).size _⟩
   case measure=>simp[intOf]
  ·have cg:=(un HC1 _ (un HB)).2.1
   have hlk:=zFg ((un HR1).later (un HB)).mp sy hs2 (un HN2)
   go_wp2_with fail
   go_roundw
   case rel=>exact⟨Or.inr (Or.inr rfl),(un HB).alloc (un HB).size _⟩
   case measure=>simp[intOf]
  ·have HR2:=zAb ((un HR1).later (un HB))
   have HA2:=zAb ((un HA1).later (un HB));have HU2:=zAb ((un HU1).later (un HB));have HB2:Hid (Below base w0 wr):=(un HB1).trans ((un HB).mono (un HR1).bs);have cgr:=(un HC1 _ (un HB)).2.2;have a2:wr.cell? ⟨g3,2,none⟩=some (.func (.func 144) #[] #[.pointer (some ⟨gr,0,none⟩)]):=(un HA2).ub.c 2 _ rfl;have a3:wr.cell? ⟨g3,3,none⟩=some (.func (.func 145) #[] #[.pointer (some ⟨gr,0,none⟩),.pointer (some ⟨gu,0,none⟩)]):=(un HA2).ub.c 3 _ rfl
   have H27:Hid (Calls Tryz.prog 146 #[.pointer (some ⟨r,0,none⟩),.agg #[.string nm,.string sy,.string vn,.string vd,.string sn,.string sd,.string ut]] wr fun e w'=>e=.returned (.tuple #[])∧((∃p v',RC w' K base r m v' (ps ++ [p]) (us ++ [#[.string nm,.string sy,.string vn,.string vd,.string sn,.string sd,.string ut]]) (n+2) ((D.put (.string nm.data.toList) (.lit (.bool true))).put (.string sy.data.toList) (.lit (.bool true))))∧Below base w0 w')) :=
    (putConst_any nm sy vn vd sn sd ut base r m n _ ps us D w0 wr (un HR2) (un HLN) (un HB2) hmb hrb hn (by omega) hs1 hs2).mono (fun e w' hh=>by
     obtain⟨⟨p,v',e1,h2⟩,h3⟩:=hh;exact⟨e1,⟨p,v',h2⟩,h3⟩)
   clear hr2
   go_wp2_with (first
    | (go_at_call 144;go_must(refine(keep2_any gr r ps.length av cv _ (by omega) cgr (un HR2).c1).mono ?_;rintro e W2 ⟨rfl,hw⟩;obtain rfl:wr=W2:=hw.symm;clear hw))
    | (go_at_call 145;go_must(refine(keep3_any nm sy vn vd sn sd ut gr gu r _ _ cgr (un HU2) (un H27)).mono ?_;rintro e W2 ⟨rfl,hq⟩;have HQ:=zAb hq;clear hq cgr a2 a3)))
   go_ret
   exact⟨rfl,(un HQ).1,(un HQ).2⟩
theorem newC_any (w:World):Calls Tryz.prog 32 #[] w fun e w'=>e=.returned (.pointer (some ⟨w.heap.size+1,0,none⟩))∧RC w' (fun _ _ _=>False) w.heap.size (w.heap.size+1) w.heap.size (.slice none 0 0) [] [] 0 (.map [])∧Bw w w':=by
 have hmm:=@run_makeMap Tryz.prog;go_enter Tryz.func32,Tryz.ntmps32
 go_wp2_with fail
 go_ret
 have hm:=World.ownsMap_made (H:=Unit) w Tryz.prog 9 Rm;refine⟨by simp,⟨?_,?_,hm.alloc _,?_,?_,fun _ _ _ h=>h.elim⟩,?_⟩
 ·have h:=zAc.new (w.alloc (.map #[] 0)) #[.slice none 0 0,.slice none 0 0,.map (some w.heap.size),.bool false] 116
  rw[Dm.size_alloc]at h;exact h
 ·exact World.ownsRow_nil _ _ _ _
 ·intro i p u h1 _
  simp at h1
 ·simp
  omega
 ·exact bA.alloc (by simp) _
theorem keep_any (nm sy vn vd sn sd ut:ByteArray) (base r m n:Nat) (vs:Value) (ps:List Nat) (us:List (Array Value)) (D:DataW Unit) (w0 w:World) (h:RC w K base r m vs ps us n D) (hlen:us.length=ps.length) (hb0:Below base w0 w) (hmb:base≤m) (hrb:base≤r) (hn:n+2<1000000) (hps:ps.length<500)
 (hs1:nm.size≤maxLen) (hs2:sy.size≤maxLen)
 (h23:∀W,Below w.heap.size w W→Calls Tryz.prog 143 #[.agg #[.string nm,.string sy,.string vn,.string vd,.string sn,.string sd,.string ut]] W fun r w'=>r=.returned (.bool true)∧Bw W w')
 (hn1:Maps.has D (.string nm.data.toList)=false) (hn2:Maps.has D (.string sy.data.toList)=false) :
 Calls Tryz.prog 62 #[.pointer (some ⟨r,0,none⟩),.agg #[.string nm,.string sy,.string vn,.string vd,.string sn,.string sd,.string ut]] w fun e w'=>e=.returned (I 0)∧(∃p v',RC w' K base r m v' (ps ++ [p]) (us ++ [#[.string nm,.string sy,.string vn,.string vd,.string sn,.string sd,.string ut]]) (n+2) ((D.put (.string nm.data.toList) (.lit (.bool true))).put (.string sy.data.toList) (.lit (.bool true))))∧Below base w0 w':=by
 obtain⟨V,hV⟩:∃V,V=(w.alloc (.cells #[.pointer (some ⟨r,0,none⟩)] 50)).alloc (.cells #[.string nm,.string sy,.string vn,.string vd,.string sn,.string sd,.string ut] 45):=⟨_,rfl⟩;have hbV:Below w.heap.size w V:=by rw[hV];exact bA.alloc (by simp) _
 have HP0:Hid (zAc V w.heap.size 50 #[.pointer (some ⟨r,0,none⟩)]):=by rw[hV];exact(zAc.new _ _ _).alloc _
 have HU0:Hid (zAc V (w.heap.size+1) 45 #[.string nm,.string sy,.string vn,.string vd,.string sn,.string sd,.string ut]):=by rw[hV];have h:=zAc.new (w.alloc (.cells #[.pointer (some ⟨r,0,none⟩)] 50)) #[.string nm,.string sy,.string vn,.string vd,.string sn,.string sd,.string ut] 45;rw[Dm.size_alloc]at h;exact h
 have HR0:=zAb (h.later hbV);have HB0:Hid (Below base w0 V):=hb0.trans (hbV.mono h.bs);have H23:Hid (∀W,Below V.heap.size V W→Calls Tryz.prog 143 #[.agg #[.string nm,.string sy,.string vn,.string vd,.string sn,.string sd,.string ut]] W fun r w'=>r=.returned (.bool true)∧Bw W w'):=fun W hW=>h23 W (hbV.trans (hW.mono hbV.size))
 have HLN:=zAb hlen;have HV:=zAb hV;have HN1:=zAb hn1;have HN2:=zAb hn2;obtain⟨g2,hg2⟩:∃g2,g2=w.heap.size:=⟨_,rfl⟩;obtain⟨g3,hg3⟩:∃g3,g3=w.heap.size+1:=⟨_,rfl⟩;clear h hbV hb0 hV hlen h23 hn1 hn2;go_enter Tryz.func62,Tryz.ntmps62
 go_upto_region 1 with fail
 rw[←un HV,←hg3,←hg2];rw[←hg2]at HP0;rw[←hg3]at HU0;clear HV hg2 hg3;have p0:V.cell? ⟨g2,0,none⟩=some (.pointer (some ⟨r,0,none⟩)):=(un HP0).ub.c 0 _ rfl;have u0:V.cell? ⟨g3,0,none⟩=some (.string nm):=(un HU0).ub.c 0 _ rfl;have u1:V.cell? ⟨g3,1,none⟩=some (.string sy):=(un HU0).ub.c 1 _ rfl;have hbA:Below V.heap.size V (V.alloc (.cells #[.string nm,.string sy] 9)):=bA;have HS:Hid (zAc (V.alloc (.cells #[.string nm,.string sy] 9)) V.heap.size 9 #[.string nm,.string sy]):=zAc.new _ _ _
 have HTK:Hid (Calls Tryz.prog 94 #[.pointer (some ⟨r,0,none⟩),.agg #[.slice (some ⟨V.heap.size,0,none⟩) 2 2,.func (.func 142) #[] #[.pointer (some ⟨g3,0,none⟩)],.func (.func 144) #[] #[.pointer (some ⟨g2,0,none⟩)],.func (.func 145) #[] #[.pointer (some ⟨g2,0,none⟩),.pointer (some ⟨g3,0,none⟩)]]] (V.alloc (.cells #[.string nm,.string sy] 9)) fun e w'=>e=.returned (I 0)∧(∃p v',RC w' K base r m v' (ps ++ [p]) (us ++ [#[.string nm,.string sy,.string vn,.string vd,.string sn,.string sd,.string ut]]) (n+2) ((D.put (.string nm.data.toList) (.lit (.bool true))).put (.string sy.data.toList) (.lit (.bool true))))∧Below base w0 w') :=
  takeC_any nm sy vn vd sn sd ut base r m n V.heap.size g3 g2 vs ps us D w0 _ ((un HR0).later hbA) (un HLN) ((un HB0).trans (hbA.mono (un HR0).bs)) hmb hrb hn hps hs1 hs2
   ((un HS).ub.c 0 _ rfl) ((un HS).ub.c 1 _ rfl) (un HS).lt ((un HU0).later hbA) (((un HP0).later hbA).ub.c 0 _ rfl) ((un HP0).later hbA).lt (fun W hW=>un H23 W (hbA.trans (hW.mono hbA.size))) (un HN1) (un HN2)
 clear hbA
 go_wp2_with (go_at_call 94;go_must(refine(un HTK).mono ?_;rintro e W1 ⟨rfl,hq⟩;have HQ:=zAb hq;clear hq p0 u0 u1))
 go_ret
 exact⟨rfl,un HQ⟩
end Go.Proofs.YtliadckofhblnaaGreatDoor.Nt
namespace Go.Proofs.YtliadckofhblnaaGreatDoor.Nt
open Go.RowKit Go.Maps Go.ChangeMaps Go.WideMaps
variable {K:Nat→Nat→Array Value→Prop}
theorem info45k:(Tryz.prog.info? 45).map (fun i=>(i.zero,i.size,i.bytes))=some (some (.agg #[G #[],G #[],G #[],G #[],G #[],G #[],G #[]]),7,112):=by kernel_rfl
theorem under41k:Tryz.prog.underlying 41=some (.slice 45):=by kernel_rfl
def IsC (u:Array Value):Prop:=∃(nm sy vn vd sn sd ut:ByteArray),u=#[.string nm,.string sy,.string vn,.string vd,.string sn,.string sd,.string ut]
def zHq (us:List (Array Value)) (k:Nat):List Value:=(us.take k).flatMap Array.toList
theorem flatC_succ (us:List (Array Value)) (k:Nat) (u:Array Value) (h:us[k]?=some u):zHq us (k+1)=zHq us k ++ u.toList:=by
 unfold zHq;rw[List.take_add_one,List.flatMap_append,h];simp
theorem news7 (W:World) (x0 x1 x2 x3 x4 x5 x6:Value) (ty:Nat):∀j u,[x0,x1,x2,x3,x4,x5,x6][j]?=some u→(W.alloc (.cells #[x0,x1,x2,x3,x4,x5,x6] ty)).cell? ((⟨W.heap.size,0,none⟩:Addr).add j)=some u:=by
 intro j u hu;have h:=(zAc.new W #[x0,x1,x2,x3,x4,x5,x6] ty).ub.c j u (by simpa using hu);have e:(⟨W.heap.size,0,none⟩:Addr).add j=⟨W.heap.size,j,none⟩:=by by_cases hj:j=0<;>simp[Addr.add,hj]
 rw[e];exact h
theorem one7 (nm sy vn vd sn sd ut:ByteArray):∀u∈([.string nm,.string sy,.string vn,.string vd,.string sn,.string sd,.string ut]:List Value),u.oneCell'=true:=by
 intro u hu;simp only[List.mem_cons,List.not_mem_nil,or_false]at hu;rcases hu with rfl|rfl|rfl|rfl|rfl|rfl|rfl<;>rfl
theorem consts_any (base r m n:Nat) (vs:Value) (ps:List Nat) (us:List (Array Value)) (D:DataW Unit) (w:World) (h:RC w K base r m vs ps us n D) (hlen:us.length=ps.length) (h0:0<ps.length) (hps:ps.length<500) (hU:∀(k:Nat) u,us[k]?=some u→IsC u) :
 Calls Tryz.prog 63 #[.pointer (some ⟨r,0,none⟩)] w fun e w'=>∃v,e=.returned v∧w'.ownsRow w.heap.size 45 7 v ps.length (zHq us ps.length)∧Bw w w':=by
 obtain⟨i0,hi,hz0,hz1,hz2⟩:=info_parts info45k;obtain⟨g,cap,rfl⟩:=Joins.ownsRow_form h.row h0;have c0:=h.c1
 have HC:Hid (∀W,Below w.heap.size w W→∀k p,ps[k]?=some p→W.cell? ⟨g,k,none⟩=some (.pointer (some ⟨p,0,none⟩))):=fun W hW k p hk=>by
  have hg:=(h.row.lt g rfl).2;rw[hW.cell (p:=⟨g,k,none⟩) hg,h.row.cellAt k (by have:=(List.getElem?_eq_some_iff.1 hk).1;omega)];simp[hk]
 have HR:=zAb h;have HL:=zAb hlen;obtain⟨N,hN⟩:∃N,N=ps.length:=⟨_,rfl⟩;rw[←hN]at h0 hps ⊢ c0;have HN:=zAb hN;have HUU:=zAb hU;clear h hlen hN hU;go_enter Tryz.func63,Tryz.ntmps63
 go_upto_region 5 with fail
 go_loopw [3,13] (fun s3 s13 wr=>∃(k:Nat) (v:Value),k≤N∧v=s3∧s13=I (k:Int)∧Hid (wr.ownsRow w.heap.size 45 7 v k (zHq us k))∧Hid (Bw w wr)) (fun _ s13 _=>N - (intOf s13).toNat)
 case atStart=>exact⟨0,_,by omega,rfl,rfl,World.ownsRow_nil _ _ _ _,Below.refl _ _⟩
 case round=>
  obtain⟨k,v,hk,rfl,rfl,HO,HB⟩:=hrel;clear c0
  by_cases hlt:k<N
  ·have hkI:(k:Int)<N:=by omega
   have hk0:(0:Int)≤(k:Int):=by omega
   obtain⟨p,hp⟩:∃p,ps[k]?=some p:=⟨_,List.getElem?_eq_getElem (by rw[←un HN];exact hlt)⟩;obtain⟨u,hu⟩:∃u,us[k]?=some u:=⟨_,List.getElem?_eq_getElem (by rw[un HL,←un HN];exact hlt)⟩;have HF:=zAb (flatC_succ us k u hu);obtain⟨nm,sy,vn,vd,sn,sd,ut,rfl⟩:=un HUU k u hu;have cg:=un HC wr (un HB) k p hp;have u0:wr.cell? ⟨p,0,none⟩=some (.string nm):=((un HR).un k p _ hp hu |>.later (un HB)).ub.c 0 _ rfl;have u1:wr.cell? ⟨p,1,none⟩=some (.string sy):=((un HR).un k p _ hp hu |>.later (un HB)).ub.c 1 _ rfl;have u2:wr.cell? ⟨p,2,none⟩=some (.string vn):=((un HR).un k p _ hp hu |>.later (un HB)).ub.c 2 _ rfl;have u3:wr.cell? ⟨p,3,none⟩=some (.string vd):=((un HR).un k p _ hp hu |>.later (un HB)).ub.c 3 _ rfl;have u4:wr.cell? ⟨p,4,none⟩=some (.string sn):=((un HR).un k p _ hp hu |>.later (un HB)).ub.c 4 _ rfl;have u5:wr.cell? ⟨p,5,none⟩=some (.string sd):=((un HR).un k p _ hp hu |>.later (un HB)).ub.c 5 _ rfl;have u6:wr.cell? ⟨p,6,none⟩=some (.string ut):=((un HR).un k p _ hp hu |>.later (un HB)).ub.c 6 _ rfl;clear hp hu
   go_upto_region 7 with fail
   go_wp2_with (at_builtin;go_must(refine wpList_append_own _ rfl _ _ 41 rfl w.heap.size 45 i0 (.agg #[G #[],G #[],G #[],G #[],G #[],G #[],G #[]]) 7 112 under41k hi hz0 hz1 hz2 rfl (by decide) _ k (zHq us k) rfl ((un HO).alloc _) ⟨wr.heap.size,0,none⟩ 1 1 [.string nm,.string sy,.string vn,.string vd,.string sn,.string sd,.string ut] rfl rfl (news7 _ _ _ _ _ _ _ _ _) (one7 _ _ _ _ _ _ _) (by unfold maxLen;omega) (by omega) (by have h1:=(un HB).size;simp;omega) ?_;intro v2 wa hown hgrow hnil;have HOW:=zAb hown;have HB4:Hid (Bw w wa):=((un HB).alloc (un HB).size _).grown hgrow (by have h1:=(un HB).size;simp;omega) (fun j hj=>((un HO).lt j hj).1);clear hown hgrow hnil cg u0 u1 u2 u3 u4 u5 u6))
   go_roundw
   case rel=>
    refine⟨k+1,v2,by omega,rfl,by go_num,?_,HB4⟩;have h:=un HOW;rw[show zHq us k ++ [.string nm,.string sy,.string vn,.string vd,.string sn,.string sd,.string ut]=zHq us (k+1)from(un HF).symm]at h;exact h
   case measure=>simp[intOf];omega
  ·have hkI:¬(k:Int)<N:=by omega
   have HK:Hid (k=N):=by show k=N;omega
   go_wp2_with fail
   go_ret
   refine⟨v,rfl,?_,un HB⟩;have h:=un HO;rw[un HK]at h;exact h
end Go.Proofs.YtliadckofhblnaaGreatDoor.Nt

/- The thirteen constants are right; what they are called stands apart. -/
import Derived.Test.YtliadckofhblnaaGreatDoorLimb3
import Derived.Test.YtliadckofhblnaaGreatDoorRegAdd
import Derived.Laws.EntriesVeiled
import Derived.Carry
import Derived.Laws.OwnMore
import Derived.Lib.SmallJoins
import Derived.Test.YtliadckofhblnaaGreatDoorNt1
import Derived.Test.YtliadckofhblnaaGreatDoorNmClass
set_option maxHeartbeats 4000000
set_option maxRecDepth 100000
namespace Go.Proofs.YtliadckofhblnaaGreatDoor.Nt
open Go.RowKit Go.Maps Go.ChangeMaps Go.WideMaps
variable {K:Nat→Nat→Array Value→Prop}
theorem keep1_any (nm sy vn vd sn sd ut:ByteArray) (g:Nat) (w:World) (ho:zAc w g 45 #[.string nm,.string sy,.string vn,.string vd,.string sn,.string sd,.string ut]) (h23:∀W,Below w.heap.size w W→Calls Tryz.prog 143 #[.agg #[.string nm,.string sy,.string vn,.string vd,.string sn,.string sd,.string ut]] W fun r w'=>r=.returned (.bool true)∧Bw W w') :
 Calls Tryz.prog 142 #[.pointer (some ⟨g,0,none⟩)] w fun r w'=>r=.returned (.bool true)∧Bw w w':=by
 have u0:w.cell? ⟨g,0,none⟩=some (.string nm):=ho.ub.c 0 _ rfl;have u1:w.cell? ⟨g,1,none⟩=some (.string sy):=ho.ub.c 1 _ rfl;have u2:w.cell? ⟨g,2,none⟩=some (.string vn):=ho.ub.c 2 _ rfl;have u3:w.cell? ⟨g,3,none⟩=some (.string vd):=ho.ub.c 3 _ rfl;have u4:w.cell? ⟨g,4,none⟩=some (.string sn):=ho.ub.c 4 _ rfl;have u5:w.cell? ⟨g,5,none⟩=some (.string sd):=ho.ub.c 5 _ rfl;have u6:w.cell? ⟨g,6,none⟩=some (.string ut):=ho.ub.c 6 _ rfl;have H23:=zAb h23;clear h23 ho;go_enter Tryz.func142,Tryz.ntmps142
 go_wp2_with (go_at_call 143;go_must(refine(un H23 _ (Below.refl _ _)).mono ?_;rintro e W1 ⟨rfl,hb⟩;have HB:=zAb hb;clear hb u0 u1 u2 u3 u4 u5 u6))
 go_ret
 exact⟨rfl,un HB⟩
theorem keep2_any (b r l:Nat) (a:Option Addr) (c:Nat) (w:World) (hl:l<512) (hb:w.cell? ⟨b,0,none⟩=some (.pointer (some ⟨r,0,none⟩))) (hr:w.cell? ⟨r,1,none⟩=some (.slice a l c)) :
 Calls Tryz.prog 144 #[.pointer (some ⟨b,0,none⟩)] w fun e w'=>e=.returned (I 0)∧w'=w:=by
 have hl':(l:Int)<512:=by omega
 go_enter Tryz.func144,Tryz.ntmps144
 go_wp2_with (go_at_call 98;go_must(refine(room_any _ _ hl').mono ?_;rintro e W1 ⟨rfl,rfl⟩))
 go_ret
 exact⟨rfl,rfl⟩
theorem keep3_any (nm sy vn vd sn sd ut:ByteArray) (b g r:Nat) (w:World) (Q:World→Prop) (hb:w.cell? ⟨b,0,none⟩=some (.pointer (some ⟨r,0,none⟩))) (ho:zAc w g 45 #[.string nm,.string sy,.string vn,.string vd,.string sn,.string sd,.string ut])
 (h27:Calls Tryz.prog 146 #[.pointer (some ⟨r,0,none⟩),.agg #[.string nm,.string sy,.string vn,.string vd,.string sn,.string sd,.string ut]] w fun e w'=>e=.returned (.tuple #[])∧Q w') :
 Calls Tryz.prog 145 #[.pointer (some ⟨b,0,none⟩),.pointer (some ⟨g,0,none⟩)] w fun e w'=>e=.returned (.tuple #[])∧Q w':=by
 have u0:w.cell? ⟨g,0,none⟩=some (.string nm):=ho.ub.c 0 _ rfl;have u1:w.cell? ⟨g,1,none⟩=some (.string sy):=ho.ub.c 1 _ rfl;have u2:w.cell? ⟨g,2,none⟩=some (.string vn):=ho.ub.c 2 _ rfl;have u3:w.cell? ⟨g,3,none⟩=some (.string vd):=ho.ub.c 3 _ rfl;have u4:w.cell? ⟨g,4,none⟩=some (.string sn):=ho.ub.c 4 _ rfl;have u5:w.cell? ⟨g,5,none⟩=some (.string sd):=ho.ub.c 5 _ rfl;have u6:w.cell? ⟨g,6,none⟩=some (.string ut):=ho.ub.c 6 _ rfl;have H27:=zAb h27;clear h27 ho;go_enter Tryz.func145,Tryz.ntmps145
 go_wp2_with (go_at_call 146;go_must(refine(un H27).mono ?_;rintro e W1 ⟨rfl,hq⟩;have HQ:=zAb hq;clear hq hb u0 u1 u2 u3 u4 u5 u6))
 go_end0
 exact⟨rfl,un HQ⟩
theorem RC.c3 {W:World} {base r m n:Nat} {vs:Value} {ps:List Nat} {us:List (Array Value)} {D:DataW Unit} (h:RC W K base r m vs ps us n D):W.cell? ⟨r,3,none⟩=some (.bool false):=h.k0.ub.c 3 _ rfl
theorem RC.c2 {W:World} {base r m n:Nat} {vs:Value} {ps:List Nat} {us:List (Array Value)} {D:DataW Unit} (h:RC W K base r m vs ps us n D):W.cell? ⟨r,2,none⟩=some (.map (some m)):=h.k0.ub.c 2 _ rfl
theorem RC.c1 {W:World} {base r m n:Nat} {vs:Value} {ps:List Nat} {us:List (Array Value)} {D:DataW Unit} (h:RC W K base r m vs ps us n D):W.cell? ⟨r,1,none⟩=some vs:=h.k0.ub.c 1 _ rfl
theorem takeC_any (nm sy vn vd sn sd ut:ByteArray) (base r m n gs gu gr:Nat) (vs:Value) (ps:List Nat) (us:List (Array Value)) (D:DataW Unit) (w0 w:World) (h:RC w K base r m vs ps us n D) (hlen:us.length=ps.length) (hb0:Below base w0 w) (hmb:base≤m) (hrb:base≤r) (hn:n+2<1000000) (hps:ps.length<500)
 (hs1:nm.size≤maxLen) (hs2:sy.size≤maxLen)
 (cs0:w.cell? ⟨gs,0,none⟩=some (.string nm)) (cs1:w.cell? ⟨gs,1,none⟩=some (.string sy)) (hgs:gs<w.heap.size) (hu:zAc w gu 45 #[.string nm,.string sy,.string vn,.string vd,.string sn,.string sd,.string ut]) (cr:w.cell? ⟨gr,0,none⟩=some (.pointer (some ⟨r,0,none⟩))) (hgr:gr<w.heap.size)
 (h23:∀W,Below w.heap.size w W→Calls Tryz.prog 143 #[.agg #[.string nm,.string sy,.string vn,.string vd,.string sn,.string sd,.string ut]] W fun r w'=>r=.returned (.bool true)∧Bw W w')
 (hn1:Maps.has D (.string nm.data.toList)=false) (hn2:Maps.has D (.string sy.data.toList)=false) :
 Calls Tryz.prog 94 #[.pointer (some ⟨r,0,none⟩),.agg #[.slice (some ⟨gs,0,none⟩) 2 2,.func (.func 142) #[] #[.pointer (some ⟨gu,0,none⟩)],.func (.func 144) #[] #[.pointer (some ⟨gr,0,none⟩)],.func (.func 145) #[] #[.pointer (some ⟨gr,0,none⟩),.pointer (some ⟨gu,0,none⟩)]]] w fun e w'=>e=.returned (I 0)∧(∃p v',RC w' K base r m v' (ps ++ [p]) (us ++ [#[.string nm,.string sy,.string vn,.string vd,.string sn,.string sd,.string ut]]) (n+2) ((D.put (.string nm.data.toList) (.lit (.bool true))).put (.string sy.data.toList) (.lit (.bool true))))∧Below base w0 w':=by
 obtain⟨av,cv,rfl⟩:=row_len h.row;obtain⟨V,hV⟩:∃V,V=w.alloc (.cells #[.slice (some ⟨gs,0,none⟩) 2 2,.func (.func 142) #[] #[.pointer (some ⟨gu,0,none⟩)],.func (.func 144) #[] #[.pointer (some ⟨gr,0,none⟩)],.func (.func 145) #[] #[.pointer (some ⟨gr,0,none⟩),.pointer (some ⟨gu,0,none⟩)]] 124):=⟨_,rfl⟩;have hbV:Below w.heap.size w V:=by rw[hV];exact bA
 have HA:Hid (zAc V w.heap.size 124 #[.slice (some ⟨gs,0,none⟩) 2 2,.func (.func 142) #[] #[.pointer (some ⟨gu,0,none⟩)],.func (.func 144) #[] #[.pointer (some ⟨gr,0,none⟩)],.func (.func 145) #[] #[.pointer (some ⟨gr,0,none⟩),.pointer (some ⟨gu,0,none⟩)]]):=by rw[hV];exact zAc.new _ _ _
 obtain⟨g3,hg3⟩:∃g3,g3=w.heap.size:=⟨_,rfl⟩;have HR0:=zAb (h.later hbV);have HB0:Hid (Below base w0 V):=hb0.trans (hbV.mono h.bs)
 have HC0:Hid (∀W,Below V.heap.size V W→W.cell? ⟨gs,0,none⟩=some (.string nm)∧W.cell? ⟨gs,1,none⟩=some (.string sy)∧W.cell? ⟨gr,0,none⟩=some (.pointer (some ⟨r,0,none⟩))):=fun W hW=>
  have hb:=hbV.trans (hW.mono hbV.size)
  ⟨(hb.cell (p:=⟨gs,0,none⟩) hgs).trans cs0,(hb.cell (p:=⟨gs,1,none⟩) hgs).trans cs1,(hb.cell (p:=⟨gr,0,none⟩) hgr).trans cr⟩
 have HU0:=zAb (hu.later hbV);have H23:Hid (∀W,Below V.heap.size V W→Calls Tryz.prog 143 #[.agg #[.string nm,.string sy,.string vn,.string vd,.string sn,.string sd,.string ut]] W fun r w'=>r=.returned (.bool true)∧Bw W w'):=fun W hW=>h23 W (hbV.trans (hW.mono hbV.size))
 have HLN:=zAb hlen;have HV:=zAb hV;have HN1:=zAb hn1;have HN2:=zAb hn2;have HZ:Hid (base≤V.heap.size):=(un HR0).bs;clear h hbV hb0 hV hlen cs0 cs1 hgs hu cr hgr h23 hn1 hn2;go_enter Tryz.func94,Tryz.ntmps94
 go_upto_region 1 with fail
 rw[←un HV,←hg3];rw[←hg3]at HA;clear HV hg3;have a0:V.cell? ⟨g3,0,none⟩=some (.slice (some ⟨gs,0,none⟩) 2 2):=(un HA).ub.c 0 _ rfl;have a1:V.cell? ⟨g3,1,none⟩=some (.func (.func 142) #[] #[.pointer (some ⟨gu,0,none⟩)]):=(un HA).ub.c 1 _ rfl
 go_upto_region 6 with (first
  | (go_at_call 168;go_must(refine(closed_any _ _ (un HR0).c3).mono ?_;rintro e W1 ⟨rfl,hw⟩;obtain rfl:V=W1:=hw.symm;clear hw))
  | (go_at_call 142;go_must(refine(keep1_any nm sy vn vd sn sd ut gu _ (un HU0) (un H23)).mono ?_;rintro e W1 ⟨rfl,hb⟩;have HBW:=zAb hb;clear hb a0 a1)))
 have HR1:=zAb ((un HR0).later (un HBW));have HA1:=zAb ((un HA).later (un HBW));have HU1:=zAb ((un HU0).later (un HBW));have HB1:Hid (Below base w0 W1):=(un HB0).trans ((un HBW).mono (un HZ));have HC1:Hid (∀W,Below W1.heap.size W1 W→W.cell? ⟨gs,0,none⟩=some (.string nm)∧W.cell? ⟨gs,1,none⟩=some (.string sy)∧W.cell? ⟨gr,0,none⟩=some (.pointer (some ⟨r,0,none⟩))):=fun W hW=>un HC0 W (bt HBW hW)
 clear HR0 HA HU0 HB0 HC0 H23 HBW HZ;have a0:W1.cell? ⟨g3,0,none⟩=some (.slice (some ⟨gs,0,none⟩) 2 2):=(un HA1).ub.c 0 _ rfl
 go_upto_region 7 with fail
 clear a0
 go_loopw [23] (fun s23 wr=>(s23=I 0∨s23=I 1∨s23=I 2)∧Hid (Bw W1 wr)) (fun s23 _=>2 - (intOf s23).toNat)
 case atStart=>exact⟨Or.inl rfl,Below.refl _ _⟩
 case round=>
  obtain⟨hs,HB⟩:=hrel;have hr2:=((un HR1).later (un HB)).c2;rcases hs with rfl|rfl|rfl
  ·have cg:=(un HC1 _ (un HB)).1
   have hlk:=zFg ((un HR1).later (un HB)).mp nm hs1 (un HN1)
   go_wp2_with fail
   go_roundw
   case rel=>exact⟨Or.inr (Or.inl rfl),(un HB).alloc (un HB).size _⟩
   case measure=>simp[intOf]
  ·have cg:=(un HC1 _ (un HB)).2.1
   have hlk:=zFg ((un HR1).later (un HB)).mp sy hs2 (un HN2)
   go_wp2_with fail
   go_roundw
   case rel=>exact⟨Or.inr (Or.inr rfl),(un HB).alloc (un HB).size _⟩
   case measure=>simp[intOf]
  ·have HR2:=zAb ((un HR1).later (un HB))
   have HA2:=zAb ((un HA1).later (un HB));have HU2:=zAb ((un HU1).later (un HB));have HB2:Hid (Below base w0 wr):=(un HB1).trans ((un HB).mono (un HR1).bs);have cgr:=(un HC1 _ (un HB)).2.2;have a2:wr.cell? ⟨g3,2,none⟩=some (.func (.func 144) #[] #[.pointer (some ⟨gr,0,none⟩)]):=(un HA2).ub.c 2 _ rfl;have a3:wr.cell? ⟨g3,3,none⟩=some (.func (.func 145) #[] #[.pointer (some ⟨gr,0,none⟩),.pointer (some ⟨gu,0,none⟩)]):=(un HA2).ub.c 3 _ rfl
   have H27:Hid (Calls Tryz.prog 146 #[.pointer (some ⟨r,0,none⟩),.agg #[.string nm,.string sy,.string vn,.string vd,.string sn,.string sd,.string ut]] wr fun e w'=>e=.returned (.tuple #[])∧((∃p v',RC w' K base r m v' (ps ++ [p]) (us ++ [#[.string nm,.string sy,.string vn,.string vd,.string sn,.string sd,.string ut]]) (n+2) ((D.put (.string nm.data.toList) (.lit (.bool true))).put (.string sy.data.toList) (.lit (.bool true))))∧Below base w0 w')) :=
    (putConst_any nm sy vn vd sn sd ut base r m n _ ps us D w0 wr (un HR2) (un HLN) (un HB2) hmb hrb hn (by omega) hs1 hs2).mono (fun e w' hh=>by
     obtain⟨⟨p,v',e1,h2⟩,h3⟩:=hh;exact⟨e1,⟨p,v',h2⟩,h3⟩)
   clear hr2
   go_wp2_with (first
    | (go_at_call 144;go_must(refine(keep2_any gr r ps.length av cv _ (by omega) cgr (un HR2).c1).mono ?_;rintro e W2 ⟨rfl,hw⟩;obtain rfl:wr=W2:=hw.symm;clear hw))
    | (go_at_call 145;go_must(refine(keep3_any nm sy vn vd sn sd ut gr gu r _ _ cgr (un HU2) (un H27)).mono ?_;rintro e W2 ⟨rfl,hq⟩;have HQ:=zAb hq;clear hq cgr a2 a3)))
   go_ret
   exact⟨rfl,(un HQ).1,(un HQ).2⟩
theorem newC_any (w:World):Calls Tryz.prog 32 #[] w fun e w'=>e=.returned (.pointer (some ⟨w.heap.size+1,0,none⟩))∧RC w' (fun _ _ _=>False) w.heap.size (w.heap.size+1) w.heap.size (.slice none 0 0) [] [] 0 (.map [])∧Bw w w':=by
 have hmm:=@run_makeMap Tryz.prog;go_enter Tryz.func32,Tryz.ntmps32
 go_wp2_with fail
 go_ret
 have hm:=World.ownsMap_made (H:=Unit) w Tryz.prog 9 Rm;refine⟨by simp,⟨?_,?_,hm.alloc _,?_,?_,fun _ _ _ h=>h.elim⟩,?_⟩
 ·have h:=zAc.new (w.alloc (.map #[] 0)) #[.slice none 0 0,.slice none 0 0,.map (some w.heap.size),.bool false] 116
  rw[Dm.size_alloc]at h;exact h
 ·exact World.ownsRow_nil _ _ _ _
 ·intro i p u h1 _
  simp at h1
 ·simp
  omega
 ·exact bA.alloc (by simp) _
theorem keep_any (nm sy vn vd sn sd ut:ByteArray) (base r m n:Nat) (vs:Value) (ps:List Nat) (us:List (Array Value)) (D:DataW Unit) (w0 w:World) (h:RC w K base r m vs ps us n D) (hlen:us.length=ps.length) (hb0:Below base w0 w) (hmb:base≤m) (hrb:base≤r) (hn:n+2<1000000) (hps:ps.length<500)
 (hs1:nm.size≤maxLen) (hs2:sy.size≤maxLen)
 (h23:∀W,Below w.heap.size w W→Calls Tryz.prog 143 #[.agg #[.string nm,.string sy,.string vn,.string vd,.string sn,.string sd,.string ut]] W fun r w'=>r=.returned (.bool true)∧Bw W w')
 (hn1:Maps.has D (.string nm.data.toList)=false) (hn2:Maps.has D (.string sy.data.toList)=false) :
 Calls Tryz.prog 62 #[.pointer (some ⟨r,0,none⟩),.agg #[.string nm,.string sy,.string vn,.string vd,.string sn,.string sd,.string ut]] w fun e w'=>e=.returned (I 0)∧(∃p v',RC w' K base r m v' (ps ++ [p]) (us ++ [#[.string nm,.string sy,.string vn,.string vd,.string sn,.string sd,.string ut]]) (n+2) ((D.put (.string nm.data.toList) (.lit (.bool true))).put (.string sy.data.toList) (.lit (.bool true))))∧Below base w0 w':=by
 obtain⟨V,hV⟩:∃V,V=(w.alloc (.cells #[.pointer (some ⟨r,0,none⟩)] 50)).alloc (.cells #[.string nm,.string sy,.string vn,.string vd,.string sn,.string sd,.string ut] 45):=⟨_,rfl⟩;have hbV:Below w.heap.size w V:=by rw[hV];exact bA.alloc (by simp) _
 have HP0:Hid (zAc V w.heap.size 50 #[.pointer (some ⟨r,0,none⟩)]):=by rw[hV];exact(zAc.new _ _ _).alloc _
 have HU0:Hid (zAc V (w.heap.size+1) 45 #[.string nm,.string sy,.string vn,.string vd,.string sn,.string sd,.string ut]):=by rw[hV];have h:=zAc.new (w.alloc (.cells #[.pointer (some ⟨r,0,none⟩)] 50)) #[.string nm,.string sy,.string vn,.string vd,.string sn,.string sd,.string ut] 45;rw[Dm.size_alloc]at h;exact h
 have HR0:=zAb (h.later hbV);have HB0:Hid (Below base w0 V):=hb0.trans (hbV.mono h.bs);have H23:Hid (∀W,Below V.heap.size V W→Calls Tryz.prog 143 #[.agg #[.string nm,.string sy,.string vn,.string vd,.string sn,.string sd,.string ut]] W fun r w'=>r=.returned (.bool true)∧Bw W w'):=fun W hW=>h23 W (hbV.trans (hW.mono hbV.size))
 have HLN:=zAb hlen;have HV:=zAb hV;have HN1:=zAb hn1;have HN2:=zAb hn2;obtain⟨g2,hg2⟩:∃g2,g2=w.heap.size:=⟨_,rfl⟩;obtain⟨g3,hg3⟩:∃g3,g3=w.heap.size+1:=⟨_,rfl⟩;clear h hbV hb0 hV hlen h23 hn1 hn2;go_enter Tryz.func62,Tryz.ntmps62
 go_upto_region 1 with fail
 rw[←un HV,←hg3,←hg2];rw[←hg2]at HP0;rw[←hg3]at HU0;clear HV hg2 hg3;have p0:V.cell? ⟨g2,0,none⟩=some (.pointer (some ⟨r,0,none⟩)):=(un HP0).ub.c 0 _ rfl;have u0:V.cell? ⟨g3,0,none⟩=some (.string nm):=(un HU0).ub.c 0 _ rfl;have u1:V.cell? ⟨g3,1,none⟩=some (.string sy):=(un HU0).ub.c 1 _ rfl;have hbA:Below V.heap.size V (V.alloc (.cells #[.string nm,.string sy] 9)):=bA;have HS:Hid (zAc (V.alloc (.cells #[.string nm,.string sy] 9)) V.heap.size 9 #[.string nm,.string sy]):=zAc.new _ _ _
 have HTK:Hid (Calls Tryz.prog 94 #[.pointer (some ⟨r,0,none⟩),.agg #[.slice (some ⟨V.heap.size,0,none⟩) 2 2,.func (.func 142) #[] #[.pointer (some ⟨g3,0,none⟩)],.func (.func 144) #[] #[.pointer (some ⟨g2,0,none⟩)],.func (.func 145) #[] #[.pointer (some ⟨g2,0,none⟩),.pointer (some ⟨g3,0,none⟩)]]] (V.alloc (.cells #[.string nm,.string sy] 9)) fun e w'=>e=.returned (I 0)∧(∃p v',RC w' K base r m v' (ps ++ [p]) (us ++ [#[.string nm,.string sy,.string vn,.string vd,.string sn,.string sd,.string ut]]) (n+2) ((D.put (.string nm.data.toList) (.lit (.bool true))).put (.string sy.data.toList) (.lit (.bool true))))∧Below base w0 w') :=
  takeC_any nm sy vn vd sn sd ut base r m n V.heap.size g3 g2 vs ps us D w0 _ ((un HR0).later hbA) (un HLN) ((un HB0).trans (hbA.mono (un HR0).bs)) hmb hrb hn hps hs1 hs2
   ((un HS).ub.c 0 _ rfl) ((un HS).ub.c 1 _ rfl) (un HS).lt ((un HU0).later hbA) (((un HP0).later hbA).ub.c 0 _ rfl) ((un HP0).later hbA).lt (fun W hW=>un H23 W (hbA.trans (hW.mono hbA.size))) (un HN1) (un HN2)
 clear hbA
 go_wp2_with (go_at_call 94;go_must(refine(un HTK).mono ?_;rintro e W1 ⟨rfl,hq⟩;have HQ:=zAb hq;clear hq p0 u0 u1))
 go_ret
 exact⟨rfl,un HQ⟩
end Go.Proofs.YtliadckofhblnaaGreatDoor.Nt
namespace Go.Proofs.YtliadckofhblnaaGreatDoor.Nt
open Go.RowKit Go.Maps Go.ChangeMaps Go.WideMaps
variable {K:Nat→Nat→Array Value→Prop}
theorem info45k:(Tryz.prog.info? 45).map (fun i=>(i.zero,i.size,i.bytes))=some (some (.agg #[G #[],G #[],G #[],G #[],G #[],G #[],G #[]]),7,112):=by kernel_rfl
theorem under41k:Tryz.prog.underlying 41=some (.slice 45):=by kernel_rfl
def IsC (u:Array Value):Prop:=∃(nm sy vn vd sn sd ut:ByteArray),u=#[.string nm,.string sy,.string vn,.string vd,.string sn,.string sd,.string ut]
def zHq (us:List (Array Value)) (k:Nat):List Value:=(us.take k).flatMap Array.toList
theorem flatC_succ (us:List (Array Value)) (k:Nat) (u:Array Value) (h:us[k]?=some u):zHq us (k+1)=zHq us k ++ u.toList:=by
 unfold zHq;rw[List.take_add_one,List.flatMap_append,h];simp
theorem news7 (W:World) (x0 x1 x2 x3 x4 x5 x6:Value) (ty:Nat):∀j u,[x0,x1,x2,x3,x4,x5,x6][j]?=some u→(W.alloc (.cells #[x0,x1,x2,x3,x4,x5,x6] ty)).cell? ((⟨W.heap.size,0,none⟩:Addr).add j)=some u:=by
 intro j u hu;have h:=(zAc.new W #[x0,x1,x2,x3,x4,x5,x6] ty).ub.c j u (by simpa using hu);have e:(⟨W.heap.size,0,none⟩:Addr).add j=⟨W.heap.size,j,none⟩:=by by_cases hj:j=0<;>simp[Addr.add,hj]
 rw[e];exact h
theorem one7 (nm sy vn vd sn sd ut:ByteArray):∀u∈([.string nm,.string sy,.string vn,.string vd,.string sn,.string sd,.string ut]:List Value),u.oneCell'=true:=by
 intro u hu;simp only[List.mem_cons,List.not_mem_nil,or_false]at hu;rcases hu with rfl|rfl|rfl|rfl|rfl|rfl|rfl<;>rfl
theorem consts_any (base r m n:Nat) (vs:Value) (ps:List Nat) (us:List (Array Value)) (D:DataW Unit) (w:World) (h:RC w K base r m vs ps us n D) (hlen:us.length=ps.length) (h0:0<ps.length) (hps:ps.length<500) (hU:∀(k:Nat) u,us[k]?=some u→IsC u) :
 Calls Tryz.prog 63 #[.pointer (some ⟨r,0,none⟩)] w fun e w'=>∃v,e=.returned v∧w'.ownsRow w.heap.size 45 7 v ps.length (zHq us ps.length)∧Bw w w':=by
 obtain⟨i0,hi,hz0,hz1,hz2⟩:=info_parts info45k;obtain⟨g,cap,rfl⟩:=Joins.ownsRow_form h.row h0;have c0:=h.c1
 have HC:Hid (∀W,Below w.heap.size w W→∀k p,ps[k]?=some p→W.cell? ⟨g,k,none⟩=some (.pointer (some ⟨p,0,none⟩))):=fun W hW k p hk=>by
  have hg:=(h.row.lt g rfl).2;rw[hW.cell (p:=⟨g,k,none⟩) hg,h.row.cellAt k (by have:=(List.getElem?_eq_some_iff.1 hk).1;omega)];simp[hk]
 have HR:=zAb h;have HL:=zAb hlen;obtain⟨N,hN⟩:∃N,N=ps.length:=⟨_,rfl⟩;rw[←hN]at h0 hps ⊢ c0;have HN:=zAb hN;have HUU:=zAb hU;clear h hlen hN hU;go_enter Tryz.func63,Tryz.ntmps63
 go_upto_region 5 with fail
 go_loopw [3,13] (fun s3 s13 wr=>∃(k:Nat) (v:Value),k≤N∧v=s3∧s13=I (k:Int)∧Hid (wr.ownsRow w.heap.size 45 7 v k (zHq us k))∧Hid (Bw w wr)) (fun _ s13 _=>N - (intOf s13).toNat)
 case atStart=>exact⟨0,_,by omega,rfl,rfl,World.ownsRow_nil _ _ _ _,Below.refl _ _⟩
 case round=>
  obtain⟨k,v,hk,rfl,rfl,HO,HB⟩:=hrel;clear c0
  by_cases hlt:k<N
  ·have hkI:(k:Int)<N:=by omega
   have hk0:(0:Int)≤(k:Int):=by omega
   obtain⟨p,hp⟩:∃p,ps[k]?=some p:=⟨_,List.getElem?_eq_getElem (by rw[←un HN];exact hlt)⟩;obtain⟨u,hu⟩:∃u,us[k]?=some u:=⟨_,List.getElem?_eq_getElem (by rw[un HL,←un HN];exact hlt)⟩;have HF:=zAb (flatC_succ us k u hu);obtain⟨nm,sy,vn,vd,sn,sd,ut,rfl⟩:=un HUU k u hu;have cg:=un HC wr (un HB) k p hp;have u0:wr.cell? ⟨p,0,none⟩=some (.string nm):=((un HR).un k p _ hp hu |>.later (un HB)).ub.c 0 _ rfl;have u1:wr.cell? ⟨p,1,none⟩=some (.string sy):=((un HR).un k p _ hp hu |>.later (un HB)).ub.c 1 _ rfl;have u2:wr.cell? ⟨p,2,none⟩=some (.string vn):=((un HR).un k p _ hp hu |>.later (un HB)).ub.c 2 _ rfl;have u3:wr.cell? ⟨p,3,none⟩=some (.string vd):=((un HR).un k p _ hp hu |>.later (un HB)).ub.c 3 _ rfl;have u4:wr.cell? ⟨p,4,none⟩=some (.string sn):=((un HR).un k p _ hp hu |>.later (un HB)).ub.c 4 _ rfl;have u5:wr.cell? ⟨p,5,none⟩=some (.string sd):=((un HR).un k p _ hp hu |>.later (un HB)).ub.c 5 _ rfl;have u6:wr.cell? ⟨p,6,none⟩=some (.string ut):=((un HR).un k p _ hp hu |>.later (un HB)).ub.c 6 _ rfl;clear hp hu
   go_upto_region 7 with fail
   go_wp2_with (at_builtin;go_must(refine wpList_append_own _ rfl _ _ 41 rfl w.heap.size 45 i0 (.agg #[G #[],G #[],G #[],G #[],G #[],G #[],G #[]]) 7 112 under41k hi hz0 hz1 hz2 rfl (by decide) _ k (zHq us k) rfl ((un HO).alloc _) ⟨wr.heap.size,0,none⟩ 1 1 [.string nm,.string sy,.string vn,.string vd,.string sn,.string sd,.string ut] rfl rfl (news7 _ _ _ _ _ _ _ _ _) (one7 _ _ _ _ _ _ _) (by unfold maxLen;omega) (by omega) (by have h1:=(un HB).size;simp;omega) ?_;intro v2 wa hown hgrow hnil;have HOW:=zAb hown;have HB4:Hid (Bw w wa):=((un HB).alloc (un HB).size _).grown hgrow (by have h1:=(un HB).size;simp;omega) (fun j hj=>((un HO).lt j hj).1);clear hown hgrow hnil cg u0 u1 u2 u3 u4 u5 u6))
   go_roundw
   case rel=>
    refine⟨k+1,v2,by omega,rfl,by go_num,?_,HB4⟩;have h:=un HOW;rw[show zHq us k ++ [.string nm,.string sy,.string vn,.string vd,.string sn,.string sd,.string ut]=zHq us (k+1)from(un HF).symm]at h;exact h
   case measure=>simp[intOf];omega
  ·have hkI:¬(k:Int)<N:=by omega
   have HK:Hid (k=N):=by show k=N;omega
   go_wp2_with fail
   go_ret
   refine⟨v,rfl,?_,un HB⟩;have h:=un HO;rw[un HK]at h;exact h
end Go.Proofs.YtliadckofhblnaaGreatDoor.Nt
namespace Go.Proofs.YtliadckofhblnaaGreatDoor
open Go.RowKit Go.Maps Go.ChangeMaps Go.WideMaps
def lgB (s:ByteArray):Nat→Nat→Int→List UInt8→Bool
 | 0,_,_,_=>false
 | n+1,p,f,acc=>if p<s.size then Nm.contB p f (Utf8.decode s p).1 && lgB s n (p+(Utf8.decode s p).2) (Nm.firstOf p f (Utf8.decode s p).1) (acc ++ Lib.encodeRune (Nm.foldR (Utf8.decode s p).1))else decide (acc=s.data.toList) && decide (p=s.size)
theorem lgB_sound {s:ByteArray}:∀(n p:Nat) (f:Int) (acc:List UInt8),lgB s n p f acc=true→Nm.Lg s p f acc s.data.toList s.size
 | 0,_,_,_,h=>by cases h
 | n+1,p,f,acc,h=>by
  unfold lgB at h
  split at h
  ·rw[Bool.and_eq_true]at h
   exact lg_step _ _ _ (by assumption) h.1 rfl rfl rfl (lgB_sound n _ _ _ h.2)
  ·rw[Bool.and_eq_true,decide_eq_true_eq,decide_eq_true_eq]at h
   obtain⟨rfl,rfl⟩:=h;exact Nm.Lg.done _ _ _ (by assumption)
def okN (s:ByteArray):Bool:=lgB s 41 0 0 [] && decide (s.size≠0) && decide (s.size≤40) && decide (s.data.toList≠[105,110])
theorem zDk {s:ByteArray} (h:okN s=true) (W:World):Calls Tryz.prog 234 #[.string s] W fun r w'=>r=.returned (.bool true)∧Bw W w':=by
 unfold okN at h
 simp only[Bool.and_eq_true,decide_eq_true_eq]at h;exact nameRight s W (lgB_sound 41 0 0 [] h.1.1.1) h.1.1.2 h.1.2 h.2
end Go.Proofs.YtliadckofhblnaaGreatDoor
namespace Go.Proofs.YtliadckofhblnaaGreatDoor.Nt
open Go.RowKit Go.Maps Go.ChangeMaps Go.WideMaps
theorem zAx (nm sy vn vd sn sd ut:ByteArray) (sg:Int) (hsg:0≤sg) (w:World)
  (h36:∀W,Below w.heap.size w W→Calls Tryz.prog 169 #[.string nm,.string sy] W fun r w'=>r=.returned (.bool true)∧Bw W w')
  (h38:∀W,Below w.heap.size w W→Calls Tryz.prog 206 #[.agg #[.string sn,.string sd]] W fun r w'=>r=.returned (.tuple #[I sg,I 0])∧Bw W w')
  (h39:∀W,Below w.heap.size w W→Calls Tryz.prog 172 #[.agg #[.string vn,.string vd]] W fun r w'=>r=.returned (.bool true)∧Bw W w')
  (hut:ut.toList.isEmpty=false) (hsz:ut.size≤65536) :
  Calls Tryz.prog 143 #[.agg #[.string nm,.string sy,.string vn,.string vd,.string sn,.string sd,.string ut]] w fun r w'=>r=.returned (.bool true)∧Bw w w':=by
 obtain⟨V,hV⟩:∃V,V=w.alloc (.cells #[.string nm,.string sy,.string vn,.string vd,.string sn,.string sd,.string ut] 45):=⟨_,rfl⟩;have HU0:Hid (zAc V w.heap.size 45 #[.string nm,.string sy,.string vn,.string vd,.string sn,.string sd,.string ut]):=by rw[hV];exact zAc.new _ _ _
 have HB0:Hid (Bw w V):=by rw[hV];exact bA
 have HV:=zAb hV;have H36:=zAb h36;have H38:=zAb h38;have H39:=zAb h39;clear hV h36 h38 h39;have hszI:(ut.size:Int)≤65536:=by omega
 go_enter Tryz.func143,Tryz.ntmps143
 go_upto_region 1 with fail
 rw[←un HV];clear HV;have u0:V.cell? ⟨w.heap.size,0,none⟩=some (.string nm):=(un HU0).ub.c 0 _ rfl;have u1:V.cell? ⟨w.heap.size,1,none⟩=some (.string sy):=(un HU0).ub.c 1 _ rfl;have u2:V.cell? ⟨w.heap.size,2,none⟩=some (.string vn):=(un HU0).ub.c 2 _ rfl;have u3:V.cell? ⟨w.heap.size,3,none⟩=some (.string vd):=(un HU0).ub.c 3 _ rfl;have u4:V.cell? ⟨w.heap.size,4,none⟩=some (.string sn):=(un HU0).ub.c 4 _ rfl;have u5:V.cell? ⟨w.heap.size,5,none⟩=some (.string sd):=(un HU0).ub.c 5 _ rfl;have u6:V.cell? ⟨w.heap.size,6,none⟩=some (.string ut):=(un HU0).ub.c 6 _ rfl
 go_wp2_with (first
  | (go_at_call 206;go_must(refine(un H38 _ (un HB0)).mono ?_;rintro e W1 ⟨rfl,hb⟩;have HU1:=zAb ((un HU0).later hb);have HB1:=zAb (bt HB0 hb);clear hb u0 u1 u2 u3 u4 u5 u6;have u0:W1.cell? ⟨w.heap.size,0,none⟩=some (.string nm):=(un HU1).ub.c 0 _ rfl;have u1:W1.cell? ⟨w.heap.size,1,none⟩=some (.string sy):=(un HU1).ub.c 1 _ rfl;have u2:W1.cell? ⟨w.heap.size,2,none⟩=some (.string vn):=(un HU1).ub.c 2 _ rfl;have u3:W1.cell? ⟨w.heap.size,3,none⟩=some (.string vd):=(un HU1).ub.c 3 _ rfl;have u4:W1.cell? ⟨w.heap.size,4,none⟩=some (.string sn):=(un HU1).ub.c 4 _ rfl;have u5:W1.cell? ⟨w.heap.size,5,none⟩=some (.string sd):=(un HU1).ub.c 5 _ rfl;have u6:W1.cell? ⟨w.heap.size,6,none⟩=some (.string ut):=(un HU1).ub.c 6 _ rfl))
  | (go_at_call 169;go_must(refine(un H36 _ (un HB1)).mono ?_;rintro e W2 ⟨rfl,hb⟩;have HU2:=zAb ((un HU1).later hb);have HB2:=zAb (bt HB1 hb);clear hb u0 u1 u2 u3 u4 u5 u6;have u0:W2.cell? ⟨w.heap.size,0,none⟩=some (.string nm):=(un HU2).ub.c 0 _ rfl;have u1:W2.cell? ⟨w.heap.size,1,none⟩=some (.string sy):=(un HU2).ub.c 1 _ rfl;have u2:W2.cell? ⟨w.heap.size,2,none⟩=some (.string vn):=(un HU2).ub.c 2 _ rfl;have u3:W2.cell? ⟨w.heap.size,3,none⟩=some (.string vd):=(un HU2).ub.c 3 _ rfl;have u4:W2.cell? ⟨w.heap.size,4,none⟩=some (.string sn):=(un HU2).ub.c 4 _ rfl;have u5:W2.cell? ⟨w.heap.size,5,none⟩=some (.string sd):=(un HU2).ub.c 5 _ rfl;have u6:W2.cell? ⟨w.heap.size,6,none⟩=some (.string ut):=(un HU2).ub.c 6 _ rfl))
  | (go_at_call 172;go_must(refine(un H39 _ (un HB2)).mono ?_;rintro e W3 ⟨rfl,hb⟩;have HU3:=zAb ((un HU2).later hb);have HB3:=zAb (bt HB2 hb);clear hb u0 u1 u2 u3 u4 u5 u6;have u0:W3.cell? ⟨w.heap.size,0,none⟩=some (.string nm):=(un HU3).ub.c 0 _ rfl;have u1:W3.cell? ⟨w.heap.size,1,none⟩=some (.string sy):=(un HU3).ub.c 1 _ rfl;have u2:W3.cell? ⟨w.heap.size,2,none⟩=some (.string vn):=(un HU3).ub.c 2 _ rfl;have u3:W3.cell? ⟨w.heap.size,3,none⟩=some (.string vd):=(un HU3).ub.c 3 _ rfl;have u4:W3.cell? ⟨w.heap.size,4,none⟩=some (.string sn):=(un HU3).ub.c 4 _ rfl;have u5:W3.cell? ⟨w.heap.size,5,none⟩=some (.string sd):=(un HU3).ub.c 5 _ rfl;have u6:W3.cell? ⟨w.heap.size,6,none⟩=some (.string ut):=(un HU3).ub.c 6 _ rfl)))
 go_ret
 exact⟨rfl,un HB3⟩
theorem rightC:∀k,k<13→∀W:World,Calls Tryz.prog 143 #[.agg (cT k)] W fun r w'=>r=.returned (.bool true)∧Bw W w'
 | 0,_=>fun W=>zAx ⟨#[97,118,111,103,97,100,114,111]⟩ ⟨#[110,97,118,111]⟩ ⟨#[54,48,50,50,49,52,48,55,54,48,48,48,48,48,48,48,48,48,48,48,48,48,48,48]⟩ ⟨#[49]⟩ ⟨#[48]⟩ ⟨#[49]⟩ ⟨#[109,111,108,94,45,49]⟩ 0 (by decide) W (fun V _=>zAv _ _ V (zDk (by decide +kernel)) (zDk (by decide +kernel))) (fun V _=>zBj _ _ (0) 0 (by decide +kernel) V (zAt _ _ 0 1 (0))) (fun V _=>zBd _ _ _ V (zAt _ _ 602214076000000000000000 1 (602214076000000000000000))) (by decide +kernel) (by decide +kernel)
 | 1,_=>fun W=>zAx ⟨#[98,111,108,116,122,109,97,110,110]⟩ ⟨#[107,98,111,108,116,122]⟩ ⟨#[49,51,56,48,54,52,57]⟩ ⟨#[49,48,48,48,48,48,48,48,48,48,48,48,48,48,48,48,48,48,48,48,48,48,48,48,48,48,48,48,48,48]⟩ ⟨#[48]⟩ ⟨#[49]⟩ ⟨#[109,94,50,32,107,103,32,115,94,45,50,32,75,94,45,49]⟩ 0 (by decide) W (fun V _=>zAv _ _ V (zDk (by decide +kernel)) (zDk (by decide +kernel))) (fun V _=>zBj _ _ (0) 0 (by decide +kernel) V (zAt _ _ 0 1 (0))) (fun V _=>zBd _ _ _ V (zAt _ _ 1380649 100000000000000000000000000000 (1380649 / 100000000000000000000000000000))) (by decide +kernel) (by decide +kernel)
 | 2,_=>fun W=>zAx ⟨#[103,97,115]⟩ ⟨#[114,103,97,115]⟩ ⟨#[50,48,55,56,54,49,53,54,53,52,53,51,56,51,49]⟩ ⟨#[50,53,48,48,48,48,48,48,48,48,48,48,48,48]⟩ ⟨#[48]⟩ ⟨#[49]⟩ ⟨#[109,94,50,32,107,103,32,115,94,45,50,32,75,94,45,49,32,109,111,108,94,45,49]⟩ 0 (by decide) W (fun V _=>zAv _ _ V (zDk (by decide +kernel)) (zDk (by decide +kernel))) (fun V _=>zBj _ _ (0) 0 (by decide +kernel) V (zAt _ _ 0 1 (0))) (fun V _=>zBd _ _ _ V (zAt _ _ 207861565453831 25000000000000 (207861565453831 / 25000000000000))) (by decide +kernel) (by decide +kernel)
 | 3,_=>fun W=>zAx ⟨#[99,104,97,114,103,101]⟩ ⟨#[101,99,104,97,114,103,101]⟩ ⟨#[56,48,49,48,56,56,51,49,55]⟩ ⟨#[53,48,48,48,48,48,48,48,48,48,48,48,48,48,48,48,48,48,48,48,48,48,48,48,48,48,48,48]⟩ ⟨#[48]⟩ ⟨#[49]⟩ ⟨#[65,32,115]⟩ 0 (by decide) W (fun V _=>zAv _ _ V (zDk (by decide +kernel)) (zDk (by decide +kernel))) (fun V _=>zBj _ _ (0) 0 (by decide +kernel) V (zAt _ _ 0 1 (0))) (fun V _=>zBd _ _ _ V (zAt _ _ 801088317 5000000000000000000000000000 (801088317 / 5000000000000000000000000000))) (by decide +kernel) (by decide +kernel)
 | 4,_=>fun W=>zAx ⟨#[102,97,114,97,100,97,121]⟩ ⟨#[102,102,97,114]⟩ ⟨#[49,50,48,54,48,54,54,54,53,49,53,52,49,51,55,53,50,51]⟩ ⟨#[49,50,53,48,48,48,48,48,48,48,48,48,48]⟩ ⟨#[48]⟩ ⟨#[49]⟩ ⟨#[65,32,115,32,109,111,108,94,45,49]⟩ 0 (by decide) W (fun V _=>zAv _ _ V (zDk (by decide +kernel)) (zDk (by decide +kernel))) (fun V _=>zBj _ _ (0) 0 (by decide +kernel) V (zAt _ _ 0 1 (0))) (fun V _=>zBd _ _ _ V (zAt _ _ 120606665154137523 1250000000000 (120606665154137523 / 1250000000000))) (by decide +kernel) (by decide +kernel)
 | 5,_=>fun W=>zAx ⟨#[101,108,101,99,116,114,111,110]⟩ ⟨#[109,101,108,101,99]⟩ ⟨#[49,56,50,49,56,55,54,55,52,48,51]⟩ ⟨#[50,48,48,48,48,48,48,48,48,48,48,48,48,48,48,48,48,48,48,48,48,48,48,48,48,48,48,48,48,48,48,48,48,48,48,48,48,48,48,48,48]⟩ ⟨#[55]⟩ ⟨#[50,53,48,48,48,48,48,48,48,48,48,48,48,48,48,48,48,48,48,48,48,48,48,48,48,48,48,48,48,48,48,48,48,48,48,48,48,48,48,48,48]⟩ ⟨#[107,103]⟩ 1 (by decide) W (fun V _=>zAv _ _ V (zDk (by decide +kernel)) (zDk (by decide +kernel))) (fun V _=>zBj _ _ (7 / 25000000000000000000000000000000000000000) 1 (by decide +kernel) V (zAt _ _ 7 25000000000000000000000000000000000000000 (7 / 25000000000000000000000000000000000000000))) (fun V _=>zBd _ _ _ V (zAt _ _ 18218767403 20000000000000000000000000000000000000000 (18218767403 / 20000000000000000000000000000000000000000))) (by decide +kernel) (by decide +kernel)
 | 6,_=>fun W=>zAx ⟨#[103,114,97,118,105,116,97,116,105,111,110]⟩ ⟨#[103,103,114,97,118]⟩ ⟨#[54,54,55,52,51]⟩ ⟨#[49,48,48,48,48,48,48,48,48,48,48,48,48,48,48,48]⟩ ⟨#[51]⟩ ⟨#[50,48,48,48,48,48,48,48,48,48,48,48,48,48,48,48]⟩ ⟨#[109,94,51,32,107,103,94,45,49,32,115,94,45,50]⟩ 1 (by decide) W (fun V _=>zAv _ _ V (zDk (by decide +kernel)) (zDk (by decide +kernel))) (fun V _=>zBj _ _ (3 / 2000000000000000) 1 (by decide +kernel) V (zAt _ _ 3 2000000000000000 (3 / 2000000000000000))) (fun V _=>zBd _ _ _ V (zAt _ _ 66743 1000000000000000 (66743 / 1000000000000000))) (by decide +kernel) (by decide +kernel)
 | 7,_=>fun W=>zAx ⟨#[103,114,97,118,105,116,121]⟩ ⟨#[103,101,97,114,116,104]⟩ ⟨#[49,57,54,49,51,51]⟩ ⟨#[50,48,48,48,48]⟩ ⟨#[48]⟩ ⟨#[49]⟩ ⟨#[109,32,115,94,45,50]⟩ 0 (by decide) W (fun V _=>zAv _ _ V (zDk (by decide +kernel)) (zDk (by decide +kernel))) (fun V _=>zBj _ _ (0) 0 (by decide +kernel) V (zAt _ _ 0 1 (0))) (fun V _=>zBd _ _ _ V (zAt _ _ 196133 20000 (196133 / 20000))) (by decide +kernel) (by decide +kernel)
 | 8,_=>fun W=>zAx ⟨#[108,105,103,104,116]⟩ ⟨#[99,108,105,103,104,116]⟩ ⟨#[50,57,57,55,57,50,52,53,56]⟩ ⟨#[49]⟩ ⟨#[48]⟩ ⟨#[49]⟩ ⟨#[109,32,115,94,45,49]⟩ 0 (by decide) W (fun V _=>zAv _ _ V (zDk (by decide +kernel)) (zDk (by decide +kernel))) (fun V _=>zBj _ _ (0) 0 (by decide +kernel) V (zAt _ _ 0 1 (0))) (fun V _=>zBd _ _ _ V (zAt _ _ 299792458 1 (299792458))) (by decide +kernel) (by decide +kernel)
 | 9,_=>fun W=>zAx ⟨#[112,108,97,110,99,107]⟩ ⟨#[104,112,108,97,110,99,107]⟩ ⟨#[49,51,50,53,50,49,52,48,51]⟩ ⟨#[50,48,48,48,48,48,48,48,48,48,48,48,48,48,48,48,48,48,48,48,48,48,48,48,48,48,48,48,48,48,48,48,48,48,48,48,48,48,48,48,48,48]⟩ ⟨#[48]⟩ ⟨#[49]⟩ ⟨#[109,94,50,32,107,103,32,115,94,45,49]⟩ 0 (by decide) W (fun V _=>zAv _ _ V (zDk (by decide +kernel)) (zDk (by decide +kernel))) (fun V _=>zBj _ _ (0) 0 (by decide +kernel) V (zAt _ _ 0 1 (0))) (fun V _=>zBd _ _ _ V (zAt _ _ 132521403 200000000000000000000000000000000000000000 (132521403 / 200000000000000000000000000000000000000000))) (by decide +kernel) (by decide +kernel)
 | 10,_=>fun W=>zAx ⟨#[106,111,115,101,112,104,115,111,110]⟩ ⟨#[107,106,111,115]⟩ ⟨#[50,49,51,54,50,51,53,53,49,50,48,48,48,48,48,48,48,48,48,48,48,48,48]⟩ ⟨#[52,52,49,55,51,56,48,49]⟩ ⟨#[48]⟩ ⟨#[49]⟩ ⟨#[109,94,45,50,32,107,103,94,45,49,32,115,94,50,32,65]⟩ 0 (by decide) W (fun V _=>zAv _ _ V (zDk (by decide +kernel)) (zDk (by decide +kernel))) (fun V _=>zBj _ _ (0) 0 (by decide +kernel) V (zAt _ _ 0 1 (0))) (fun V _=>zBd _ _ _ V (zAt _ _ 21362355120000000000000 44173801 (21362355120000000000000 / 44173801))) (by decide +kernel) (by decide +kernel)
 | 11,_=>fun W=>zAx ⟨#[107,108,105,116,122,105,110,103]⟩ ⟨#[114,107,108,105,116,122]⟩ ⟨#[53,53,50,49,55,50,53,49,50,53,48,48,48,48,48,48,48,48,48,48,48,48]⟩ ⟨#[50,49,51,57,49,52,49,54,51,56,55,55,57,54,52,49,54,51]⟩ ⟨#[48]⟩ ⟨#[49]⟩ ⟨#[109,94,50,32,107,103,32,115,94,45,51,32,65,94,45,50]⟩ 0 (by decide) W (fun V _=>zAv _ _ V (zDk (by decide +kernel)) (zDk (by decide +kernel))) (fun V _=>zBj _ _ (0) 0 (by decide +kernel) V (zAt _ _ 0 1 (0))) (fun V _=>zBd _ _ _ V (zAt _ _ 5521725125000000000000 213914163877964163 (5521725125000000000000 / 213914163877964163))) (by decide +kernel) (by decide +kernel)
 | 12,_=>fun W=>zAx ⟨#[112,114,111,116,111,110]⟩ ⟨#[109,112,114,111,116]⟩ ⟨#[49,54,55,50,54,50,49,57,50,51,54,57]⟩ ⟨#[49,48,48,48,48,48,48,48,48,48,48,48,48,48,48,48,48,48,48,48,48,48,48,48,48,48,48,48,48,48,48,48,48,48,48,48,48,48,48]⟩ ⟨#[53,49]⟩ ⟨#[49,48,48,48,48,48,48,48,48,48,48,48,48,48,48,48,48,48,48,48,48,48,48,48,48,48,48,48,48,48,48,48,48,48,48,48,48,48,48]⟩ ⟨#[107,103]⟩ 1 (by decide) W (fun V _=>zAv _ _ V (zDk (by decide +kernel)) (zDk (by decide +kernel))) (fun V _=>zBj _ _ (51 / 100000000000000000000000000000000000000) 1 (by decide +kernel) V (zAt _ _ 51 100000000000000000000000000000000000000 (51 / 100000000000000000000000000000000000000))) (fun V _=>zBd _ _ _ V (zAt _ _ 167262192369 100000000000000000000000000000000000000 (167262192369 / 100000000000000000000000000000000000000))) (by decide +kernel) (by decide +kernel)
 | _+13,h=>absurd h (by omega)
def DDc:Nat→DataW Unit
 | 0=>.map []
 | k+1=>((DDc k).put (.string (fNm k).data.toList) (.lit (.bool true))).put (.string (fSy k).data.toList) (.lit (.bool true))
theorem hasC_nm:∀k,k<13→Maps.has (DDc k) (.string (fNm k).data.toList)=false
 | 0,_=>by kernel_rfl
 | 1,_=>by kernel_rfl
 | 2,_=>by kernel_rfl
 | 3,_=>by kernel_rfl
 | 4,_=>by kernel_rfl
 | 5,_=>by kernel_rfl
 | 6,_=>by kernel_rfl
 | 7,_=>by kernel_rfl
 | 8,_=>by kernel_rfl
 | 9,_=>by kernel_rfl
 | 10,_=>by kernel_rfl
 | 11,_=>by kernel_rfl
 | 12,_=>by kernel_rfl
 | _+13,h=>absurd h (by omega)
theorem hasC_sy:∀k,k<13→Maps.has (DDc k) (.string (fSy k).data.toList)=false
 | 0,_=>by kernel_rfl
 | 1,_=>by kernel_rfl
 | 2,_=>by kernel_rfl
 | 3,_=>by kernel_rfl
 | 4,_=>by kernel_rfl
 | 5,_=>by kernel_rfl
 | 6,_=>by kernel_rfl
 | 7,_=>by kernel_rfl
 | 8,_=>by kernel_rfl
 | 9,_=>by kernel_rfl
 | 10,_=>by kernel_rfl
 | 11,_=>by kernel_rfl
 | 12,_=>by kernel_rfl
 | _+13,h=>absurd h (by omega)
theorem small_c:∀k,k<13→(fNm k).size≤maxLen∧(fSy k).size≤maxLen
 | 0,_=>⟨by decide,by decide⟩
 | 1,_=>⟨by decide,by decide⟩
 | 2,_=>⟨by decide,by decide⟩
 | 3,_=>⟨by decide,by decide⟩
 | 4,_=>⟨by decide,by decide⟩
 | 5,_=>⟨by decide,by decide⟩
 | 6,_=>⟨by decide,by decide⟩
 | 7,_=>⟨by decide,by decide⟩
 | 8,_=>⟨by decide,by decide⟩
 | 9,_=>⟨by decide,by decide⟩
 | 10,_=>⟨by decide,by decide⟩
 | 11,_=>⟨by decide,by decide⟩
 | 12,_=>⟨by decide,by decide⟩
 | _+13,h=>absurd h (by omega)
theorem cT_is:∀k,IsC (cT k)
 | 0=>⟨_,_,_,_,_,_,_,rfl⟩
 | 1=>⟨_,_,_,_,_,_,_,rfl⟩
 | 2=>⟨_,_,_,_,_,_,_,rfl⟩
 | 3=>⟨_,_,_,_,_,_,_,rfl⟩
 | 4=>⟨_,_,_,_,_,_,_,rfl⟩
 | 5=>⟨_,_,_,_,_,_,_,rfl⟩
 | 6=>⟨_,_,_,_,_,_,_,rfl⟩
 | 7=>⟨_,_,_,_,_,_,_,rfl⟩
 | 8=>⟨_,_,_,_,_,_,_,rfl⟩
 | 9=>⟨_,_,_,_,_,_,_,rfl⟩
 | 10=>⟨_,_,_,_,_,_,_,rfl⟩
 | 11=>⟨_,_,_,_,_,_,_,rfl⟩
 | _+12=>⟨_,_,_,_,_,_,_,rfl⟩
def usC (k:Nat):List (Array Value):=(List.range k).map cT
theorem usC_succ (k:Nat):usC (k+1)=usC k ++ [cT k]:=by unfold usC;rw[List.range_succ,List.map_append];rfl
theorem usC_len (k:Nat):(usC k).length=k:=by simp[usC]
theorem usC_is (n k:Nat) (u:Array Value) (h:(usC n)[k]?=some u):IsC u:=by
 unfold usC at h
 rw[List.getElem?_map]at h;obtain⟨i,_,rfl⟩:=Option.map_eq_some_iff.1 h;exact cT_is i
theorem RC.withK {W:World} {K K':Nat→Nat→Array Value→Prop} {base r m n:Nat} {vs:Value} {ps:List Nat} {us:List (Array Value)} {D:DataW Unit} (h:RC W K base r m vs ps us n D) (hk:∀(g ty:Nat) (us:Array Value),K' g ty us→ty≠116∧ty≠159∧zAc W g ty us):RC W K' base r m vs ps us n D:=⟨h.k0,h.row,h.mp,h.un,h.bs,hk⟩
theorem keepC (K:Nat→Nat→Array Value→Prop) (k:Nat) (hk:k<13) (base r m:Nat) (vs:Value) (ps:List Nat) (w0 W:World) (h:RC W K base r m vs ps (usC k) (2*k) (DDc k)) (hl:ps.length=k) (hb:Below base w0 W) (hm:base≤m) (hr:base≤r) :
  Calls Tryz.prog 62 #[.pointer (some ⟨r,0,none⟩),.agg (cT k)] W fun e w'=>e=.returned (I 0)∧(∃p v',RC w' K base r m v' (ps ++ [p]) (usC (k+1)) (2*(k+1)) (DDc (k+1)))∧Below base w0 w':=by
 obtain⟨a2,a3,a4,a5,a6,hct⟩:=cT_words k hk;have hrc:=rightC k hk;rw[usC_succ];rw[hct]at hrc ⊢;exact keep_any _ _ _ _ _ _ _ base r m (2*k) vs ps (usC k) (DDc k) w0 W h (by rw[usC_len,hl]) hb hm hr (by omega) (by omega) (small_c k hk).1 (small_c k hk).2 (fun V _=>hrc V) (hasC_nm k hk) (hasC_sy k hk)
end Go.Proofs.YtliadckofhblnaaGreatDoor.Nt

/- putConst (146): the constant told stands in the registry. -/
import Derived.Test.YtliadckofhblnaaGreatDoorLimb3
import Derived.Test.YtliadckofhblnaaGreatDoorPutUnit
set_option maxHeartbeats 8000000
set_option maxRecDepth 100000
namespace Go.Proofs.YtliadckofhblnaaGreatDoor.Nt
open Go.RowKit Go.Maps Go.ChangeMaps Go.WideMaps
variable {K:Nat→Nat→Array Value→Prop}
theorem under114:Tryz.prog.underlying 114=some (.slice 159):=by kernel_rfl
theorem info159:(Tryz.prog.info? 159).map (fun i=>(i.zero,i.size,i.bytes))=some (some (.pointer none),1,8):=by kernel_rfl
theorem one_newC (W:World) (x:Value):∀j u,[x][j]?=some u→(W.alloc (.cells #[x] 159)).cell? ((⟨W.heap.size,0,none⟩:Addr).add j)=some u:=by
  intro j u hj
  cases j with
  | zero=>
    obtain rfl:x=u:=by simpa using hj
    exact(zAc.new W #[x] 159).ub.c 0 _ rfl
  | succ j=>simp at hj
structure RC (W:World) (K:Nat→Nat→Array Value→Prop) (base r m:Nat) (vs:Value) (ps:List Nat) (us:List (Array Value)) (n:Nat) (D:DataW Unit):Prop where
  k0:zAc W r 116 #[.slice none 0 0,vs,.map (some m),.bool false]
  row:W.ownsRow base 159 1 vs ps.length (ps.map fun p=>Value.pointer (some ⟨p,0,none⟩))
  mp:W.ownsMap Tryz.prog 9 Rm m n D
  un:∀(i p:Nat) (u:Array Value),ps[i]?=some p→us[i]?=some u→zAc W p 45 u
  bs:base≤W.heap.size
  ex:∀(g ty:Nat) (us:Array Value),K g ty us→ty≠116∧ty≠159∧zAc W g ty us
theorem RC.later {W V:World} {base r m n:Nat} {vs:Value} {ps:List Nat} {us:List (Array Value)} {D:DataW Unit} (h:RC W K base r m vs ps us n D) (hb:Below W.heap.size W V):RC V K base r m vs ps us n D :=
  ⟨h.k0.later hb,row_later h.row hb,map_later h.mp hb,fun i p u h1 h2=>(h.un i p u h1 h2).later hb,Nat.le_trans h.bs hb.size,fun g ty us hk=>⟨(h.ex g ty us hk).1,(h.ex g ty us hk).2.1,(h.ex g ty us hk).2.2.later hb⟩⟩
theorem RC.grown {W V:World} {base r m n:Nat} {vs:Value} {ps:List Nat} {us:List (Array Value)} {D:DataW Unit} (h:RC W K base r m vs ps us n D) (hg:W.grownBy V (some m)) {n':Nat} {D':DataW Unit} (hm:V.ownsMap Tryz.prog 9 Rm m n' D'):RC V K base r m vs ps us n' D':=by
  refine⟨h.k0.grown hg (fun e=>zFs h.mp h.k0 (by simpa using e)),?_,hm,fun i p u h1 h2=>(h.un i p u h1 h2).grown hg (fun e=>zFs h.mp (h.un i p u h1 h2) (by simpa using e)),?_,fun g ty us hk=>⟨(h.ex g ty us hk).1,(h.ex g ty us hk).2.1,(h.ex g ty us hk).2.2.grown hg (fun e=>zFs h.mp (h.ex g ty us hk).2.2 (by simpa using e))⟩⟩
  · obtain⟨hl,h1⟩:=h.row
    refine⟨hl,?_⟩;rcases h1 with h1|⟨g,cap,cur,hv,hbg,hgg,h2,h3,h4,h5⟩
    · exact Or.inl h1
    · refine Or.inr ⟨g,cap,cur,hv,hbg,(hg.block g (Array.getElem?_eq_some_iff.1 hgg).1 (fun e=>?_)).trans hgg,h2,h3,h4,h5⟩
      have e':g=m:=by simpa using e
      subst e';obtain⟨es,clock,hb,_⟩:=h.mp;rw[hb]at hgg
      cases hgg
  · exact Nat.le_trans h.bs hg.size
theorem RC.more {W A V:World} {base r m n p:Nat} {vs v':Value} {ps:List Nat} {us:List (Array Value)} {u:Array Value} {D:DataW Unit} (h:RC W K base r m vs ps us n D) (hlen:us.length=ps.length)
    (hb:Below W.heap.size W A) (hg:A.grownBy V vs.ownBlock) (hp:zAc A p 45 u) (hr:V.ownsRow base 159 1 v' (ps.length+1) ((ps.map fun p=>Value.pointer (some ⟨p,0,none⟩)) ++ [.pointer (some ⟨p,0,none⟩)])) :
    RC (V.setCell ⟨r,1,none⟩ v') K base r m v' (ps ++ [p]) (us ++ [u]) n D:=by
  have hA:=h.later hb;have k1:zAc V r 116 #[.slice none 0 0,vs,.map (some m),.bool false]:=hA.k0.grown hg (zEn hA.row hA.k0 (by decide));have m1:V.ownsMap Tryz.prog 9 Rm m n D:=hA.mp.kept hg (row_ne_map hA.row hA.mp);refine⟨k1.set 1 v',?_,m1.setCell (Ne.symm (zFs m1 k1)) _,?_,?_,fun g ty us hk=>⟨(h.ex g ty us hk).1,(h.ex g ty us hk).2.1,((hA.ex g ty us hk).2.2.grown hg (zEn hA.row (hA.ex g ty us hk).2.2 (h.ex g ty us hk).2.1)).otherSet (ty_ne ((hA.ex g ty us hk).2.2.grown hg (zEn hA.row (hA.ex g ty us hk).2.2 (h.ex g ty us hk).2.1)) k1 (h.ex g ty us hk).1) _ _⟩⟩
  · obtain⟨_,h1⟩:=hr
    refine⟨by simp,?_⟩;rcases h1 with ⟨_,h1⟩|⟨g,cap,cur,hv,hbg,hgg,h2,h3,h4,h5⟩
    · omega
    · refine Or.inr ⟨g,cap,cur,by simpa using hv,hbg,(Below.heap_setCell V ⟨r,1,none⟩ v' g (fun e=>?_)).trans hgg,by simpa using h2,h3,h4,by simpa using h5⟩
      have e':g=r:=e;subst e';unfold zAc at k1
      rw[k1]at hgg;simp at hgg
  · intro i q w' h1 h2
    have base':∀(i q:Nat) (w':Array Value),ps[i]?=some q→us[i]?=some w'→zAc (V.setCell ⟨r,1,none⟩ v') q 45 w':=fun i q w' h1 h2=>by
      have o1:=hA.un i q w' h1 h2;have o2:=o1.grown hg (zEn hA.row o1 (by decide));refine o2.otherSet (fun e=>?_) _ _;subst e;unfold zAc at o2 k1
      rw[k1]at o2;simp at o2
    by_cases hi:i<ps.length
    · exact base' i q w' (by rw[List.getElem?_append_left hi]at h1;exact h1) (by rw[List.getElem?_append_left (by omega)]at h2;exact h2)
    · have hi2:i=ps.length:=by
        have:=(List.getElem?_eq_some_iff.1 h1).1;simp at this
        omega
      subst hi2;have e1:p=q:=by simpa using h1
      have e2:u=w':=by rw[←hlen]at h2;simpa using h2
      subst e1 e2;have o2:=hp.grown hg (zEn hA.row hp (by decide));refine o2.otherSet (fun e=>?_) _ _;subst e;unfold zAc at o2 k1
      rw[k1]at o2;simp at o2
  · have:=hg.size
    have:=h.bs;have:=hb.size;simp
    omega
end Go.Proofs.YtliadckofhblnaaGreatDoor.Nt
namespace Go.Proofs.YtliadckofhblnaaGreatDoor.Nt
open Go.RowKit Go.Maps Go.ChangeMaps Go.WideMaps
variable {K:Nat→Nat→Array Value→Prop}
theorem putConst_any (nm sy vn vd sn sd ut:ByteArray) (base r m n:Nat) (vs:Value) (ps:List Nat) (us:List (Array Value)) (D:DataW Unit) (w0 w:World) (h:RC w K base r m vs ps us n D) (hlen:us.length=ps.length) (hb0:Below base w0 w) (hmb:base≤m) (hrb:base≤r) (hn:n+2<1000000) (hps:ps.length<1000)
  (hs1:nm.size≤maxLen) (hs2:sy.size≤maxLen) :
  Calls Tryz.prog 146 #[.pointer (some ⟨r,0,none⟩),.agg #[.string nm,.string sy,.string vn,.string vd,.string sn,.string sd,.string ut]] w fun e w'=>(∃p v',e=.returned (.tuple #[])∧RC w' K base r m v' (ps ++ [p]) (us ++ [#[.string nm,.string sy,.string vn,.string vd,.string sn,.string sd,.string ut]]) (n+2) ((D.put (.string nm.data.toList) (.lit (.bool true))).put (.string sy.data.toList) (.lit (.bool true))))∧Below base w0 w':=by
 obtain⟨i0,hi,hz0,hz1,hz2⟩:=info_parts info159;obtain⟨av,lv,cv,rfl⟩:=zHg h.row;obtain⟨V,hV⟩:∃V,V=w.alloc (.cells #[.string nm,.string sy,.string vn,.string vd,.string sn,.string sd,.string ut] 45):=⟨_,rfl⟩;have hbV:Below w.heap.size w V:=by rw[hV];exact bA
 have HU0:Hid (zAc V w.heap.size 45 #[.string nm,.string sy,.string vn,.string vd,.string sn,.string sd,.string ut]):=by rw[hV];exact zAc.new _ _ _
 have HR0:=zAb (h.later hbV);have HB0:Hid (Below base w0 V):=hb0.trans (hbV.mono h.bs);have HLN:=zAb hlen;have HV:=zAb hV;have hsz:w.heap.size<V.heap.size:=(un HU0).lt;have hbs:=(un HR0).bs;have HPL:Hid (ps.length+1≤maxLen∧(ps.length+1)*8≤140737488355328):=⟨by unfold maxLen;omega,by omega⟩;have HNM:Hid (n<maxLen∧n+1<maxLen):=by show n<maxLen∧n+1<maxLen;unfold maxLen;omega
 clear h hbV hb0 hV hlen;go_enter Tryz.func146,Tryz.ntmps146
 go_upto_region 1 with fail
 rw[←un HV];clear HV;obtain⟨g3,hg3⟩:∃g3,g3=w.heap.size:=⟨_,rfl⟩;rw[←hg3]at HU0;rw[←hg3];clear hg3;have c0:V.cell? ⟨r,1,none⟩=some (.slice av lv cv):=(un HR0).k0.ub.c 1 _ rfl;have hal:Below V.heap.size V (V.alloc (.cells #[.pointer (some ⟨g3,0,none⟩)] 159)):=bA;have HAL:=zAb hal;have HRA:=zAb ((un HR0).later hal);clear hal
 go_upto_region 2 with (at_builtin;go_must(refine wpList_append_own _ rfl _ _ 114 rfl base 159 i0 (.pointer none) 1 8 under114 hi hz0 hz1 hz2 rfl (by decide) _ ps.length (ps.map fun p=>Value.pointer (some ⟨p,0,none⟩)) rfl (un HRA).row ⟨V.heap.size,0,none⟩ 1 1 [.pointer (some ⟨g3,0,none⟩)] rfl rfl (one_newC _ _) (one_one _) (un HPL).1 (un HPL).2 (by simp;omega) ?_;intro vn w4 hown hgrow hnil;obtain⟨an,ln,cn,rfl⟩:=zHg hown;have HMO:=zAb ((un HR0).more (u:=#[.string nm,.string sy,.string vn,.string vd,.string sn,.string sd,.string ut]) (un HLN) (un HAL) hgrow ((un HU0).later (un HAL)) hown);have HU4:=zAb (((un HU0).later (un HAL)).grown hgrow (zEn (un HRA).row ((un HU0).later (un HAL)) (by decide)));have HB4:=zAb (Below.grown ((un HB0).trans ((un HAL).mono hbs)) hgrow (by simp;omega) (fun j hj=>row_base (un HRA).row j hj.symm));have k4:=zAb ((un HRA).k0.grown hgrow (zEn (un HRA).row (un HRA).k0 (by decide)));have e0:w4.cell? ⟨r,1,none⟩=some (.slice av lv cv):=(un k4).ub.c 1 _ rfl;have ef0:w4.frozen? ⟨r,1,none⟩=false:=(un k4).ub.f 1 (.slice av lv cv) rfl;clear hown hgrow hnil c0))
 have HR3:=zAb (un HMO);have HU3:Hid (zAc (w4.setCell ⟨r,1,none⟩ (.slice an ln cn)) g3 45 #[.string nm,.string sy,.string vn,.string vd,.string sn,.string sd,.string ut]):=(un HU4).otherSet (ty_ne (un HU4) (un k4) (by decide)) _ _;have HB3:Hid (Below base w0 (w4.setCell ⟨r,1,none⟩ (.slice an ln cn))):=(un HB4).setCell hrb _;clear HMO HU4 HB4 k4 e0 ef0 HR0 HRA HU0 HB0 HAL;generalize w4.setCell ⟨r,1,none⟩ (.slice an ln cn)=A at *
 go_upto_region 2 with fail
 have HS3:Hid (∀W',RC W' K base r m (.slice an ln cn) (ps ++ [g3]) (us ++ [#[.string nm,.string sy,.string vn,.string vd,.string sn,.string sd,.string ut]]) n D→zAc W' g3 45 #[.string nm,.string sy,.string vn,.string vd,.string sn,.string sd,.string ut]→W'.cell? ⟨r,2,none⟩=some (.map (some m))∧W'.cell? ⟨g3,0,none⟩=some (.string nm)):=fun W' h h'=>⟨h.k0.ub.c 2 _ rfl,h'.ub.c 0 _ rfl⟩
 have HG3:=zAb ((un HR3).later (Below.refl _ _).drew);have HA3:=zAb ((un HU3).later (Below.refl _ _).drew);have HBD3:=zAb ((un HB3).drew);have HS0:=zAb (un HS3 _ (un HG3) (un HA3));refine zAi 7 (fun W'=>W'.cell? ⟨r,2,none⟩=some (.map (some m))∧W'.cell? ⟨g3,0,none⟩=some (.string nm)) (fun _=>True) 8 rfl (by kernel_rfl) ?_;refine wT 0 (.pointer (some ⟨r,0,none⟩)) rfl (Or.inl ⟨by rfl,?_⟩) ⟨un HS0,trivial⟩ ?_
 ·intro W' hW
  go_split_ands
  go_simp
 refine wT 1 (.pointer (some ⟨r,0,none⟩)) rfl (Or.inl ⟨by rfl,?_⟩) ⟨un HS0,trivial⟩ ?_
 ·intro W' hW
  go_split_ands
  go_simp
 refine wT 2 (.pointer (some ⟨r,2,none⟩)) rfl (Or.inl ⟨by rfl,?_⟩) ⟨un HS0,trivial⟩ ?_
 ·intro W' hW
  go_split_ands
  go_simp
 refine wT 3 (.map (some m)) rfl (Or.inl ⟨by rfl,?_⟩) ⟨un HS0,trivial⟩ ?_
 ·intro W' hW
  go_split_ands
  go_simp
 refine wT 4 (.pointer (some ⟨g3,0,none⟩)) rfl (Or.inl ⟨by rfl,?_⟩) ⟨un HS0,trivial⟩ ?_
 ·intro W' hW
  go_split_ands
  go_simp
 refine wT 5 (.string nm) rfl (Or.inl ⟨by rfl,?_⟩) ⟨un HS0,trivial⟩ ?_
 ·intro W' hW
  go_split_ands
  go_simp
 refine wT 6 (.agg #[.pointer none,.pointer (some ⟨g3,0,none⟩)]) rfl (Or.inl ⟨by rfl,?_⟩) ⟨un HS0,trivial⟩ ?_
 ·intro W' hW
  go_split_ands
  go_simp
 clear HS0;refine wpR_map (H:=Unit) (i:=7) (o:=_) (by kernel_rfl) rfl rfl (by kernel_rfl) (.tmp 16) (.tmp 18) (.tmp 19) 112 rfl 9 192 (string_keyed Tryz.underlying9) under42 Rm m n D (by kernel_rfl) (un HG3).mp (un HNM).1 (.string nm) (.agg #[.pointer none,.pointer (some ⟨g3,0,none⟩)]) (.string nm.data.toList) (by kernel_rfl) (by kernel_rfl) (keyOf_string_mk Tryz.underlying9 hs1) (.lit (.bool true)) [] rfl ?_;intro wu hown hgrow;refine⟨trivial,?_⟩;have HR4:=zAb ((un HG3).grown hgrow hown);have HU4:=zAb ((un HA3).grown hgrow (fun e=>zFs (un HG3).mp (un HA3) (by simpa using e)));have HB4:=zAb (zFn (un HBD3) hgrow hmb (un HG3).mp.lt);clear hown hgrow HG3 HA3 HBD3 HR3 HU3 HB3 HS3;refine wDn ?_
 go_upto_region 3 with fail
 have HS4:Hid (∀W',RC W' K base r m (.slice an ln cn) (ps ++ [g3]) (us ++ [#[.string nm,.string sy,.string vn,.string vd,.string sn,.string sd,.string ut]]) (n+1) (D.put (.string nm.data.toList) (.lit (.bool true)))→zAc W' g3 45 #[.string nm,.string sy,.string vn,.string vd,.string sn,.string sd,.string ut]→W'.cell? ⟨r,2,none⟩=some (.map (some m))∧W'.cell? ⟨g3,1,none⟩=some (.string sy)):=fun W' h h'=>⟨h.k0.ub.c 2 _ rfl,h'.ub.c 1 _ rfl⟩
 have HG4:=zAb ((un HR4).later (Below.refl _ _).drew);have HA4:=zAb ((un HU4).later (Below.refl _ _).drew);have HBD4:=zAb ((un HB4).drew);have HS0:=zAb (un HS4 _ (un HG4) (un HA4));refine zAi 7 (fun W'=>W'.cell? ⟨r,2,none⟩=some (.map (some m))∧W'.cell? ⟨g3,1,none⟩=some (.string sy)) (fun _=>True) 8 rfl (by kernel_rfl) ?_;refine wT 0 (.pointer (some ⟨r,0,none⟩)) rfl (Or.inl ⟨by rfl,?_⟩) ⟨un HS0,trivial⟩ ?_
 ·intro W' hW
  go_split_ands
  go_simp
 refine wT 1 (.pointer (some ⟨r,0,none⟩)) rfl (Or.inl ⟨by rfl,?_⟩) ⟨un HS0,trivial⟩ ?_
 ·intro W' hW
  go_split_ands
  go_simp
 refine wT 2 (.pointer (some ⟨r,2,none⟩)) rfl (Or.inl ⟨by rfl,?_⟩) ⟨un HS0,trivial⟩ ?_
 ·intro W' hW
  go_split_ands
  go_simp
 refine wT 3 (.map (some m)) rfl (Or.inl ⟨by rfl,?_⟩) ⟨un HS0,trivial⟩ ?_
 ·intro W' hW
  go_split_ands
  go_simp
 refine wT 4 (.pointer (some ⟨g3,1,none⟩)) rfl (Or.inl ⟨by rfl,?_⟩) ⟨un HS0,trivial⟩ ?_
 ·intro W' hW
  go_split_ands
  go_simp
 refine wT 5 (.string sy) rfl (Or.inl ⟨by rfl,?_⟩) ⟨un HS0,trivial⟩ ?_
 ·intro W' hW
  go_split_ands
  go_simp
 refine wT 6 (.agg #[.pointer none,.pointer (some ⟨g3,0,none⟩)]) rfl (Or.inl ⟨by rfl,?_⟩) ⟨un HS0,trivial⟩ ?_
 ·intro W' hW
  go_split_ands
  go_simp
 clear HS0;refine wpR_map (H:=Unit) (i:=7) (o:=_) (by kernel_rfl) rfl rfl (by kernel_rfl) (.tmp 23) (.tmp 25) (.tmp 26) 112 rfl 9 192 (string_keyed Tryz.underlying9) under42 Rm m (n+1) (D.put (.string nm.data.toList) (.lit (.bool true))) (by kernel_rfl) (un HG4).mp (un HNM).2 (.string sy) (.agg #[.pointer none,.pointer (some ⟨g3,0,none⟩)]) (.string sy.data.toList) (by kernel_rfl) (by kernel_rfl) (keyOf_string_mk Tryz.underlying9 hs2) (.lit (.bool true)) [] rfl ?_;intro wu hown hgrow;refine⟨trivial,?_⟩;have HR5:=zAb ((un HG4).grown hgrow hown);have HU5:=zAb ((un HA4).grown hgrow (fun e=>zFs (un HG4).mp (un HA4) (by simpa using e)));have HB5:=zAb (zFn (un HBD4) hgrow hmb (un HG4).mp.lt);clear hown hgrow HG4 HA4 HBD4 HR4 HU4 HB4 HS4;refine wDn ?_
 go_wp2_with fail
 go_end0
 exact⟨⟨g3,_,rfl,un HR5⟩,un HB5⟩
end Go.Proofs.YtliadckofhblnaaGreatDoor.Nt

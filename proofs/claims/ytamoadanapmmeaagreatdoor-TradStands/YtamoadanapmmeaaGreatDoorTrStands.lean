/- The document's Same (12); TradStands (3). -/
import Derived.Test.YtamoadanapmmeaaGreatDoorLimb3
import Derived.Test.YtamoadanapmmeaaGreatDoorNmRight
import Derived.Test.YtamoadanapmmeaaGreatDoorTabS
import Derived.Deep.Onto
import Derived.Test.YtamoadanapmmeaaGreatDoorUnit2
import Derived.ChangeKeysEq
import Derived.Laws.StructEq
import Derived.BigQuiet
namespace Go.Proofs.YtamoadanapmmeaaGreatDoor.Tr
open Go.RowKit Go.Maps Go.ChangeMaps Go.WideMaps
def suOf (t:Tu):Su:=⟨t.nm,t.sy,0,t.d0,t.d1,t.d2,t.d3,t.d4,t.d5,t.d6,t.d7,1,1⟩
theorem right_tr:∀k,k<22→∀W,Tab W→Calls Tryz.prog 96 #[.agg (rtT (trt k))] W fun r w'=>r=.returned (.bool true)∧Below W.heap.size W w'
  | 0,_=>right_gen (suOf (trt 0)) _ _ (127 / 5000) (isR_lit2 _ _ 127 5000 (127 / 5000) (by decide +kernel) (by decide +kernel) (by decide +kernel) (by decide +kernel) (by decide +kernel) (by decide +kernel) (by decide +kernel) (by decide +kernel) (by decide +kernel)) (by decide +kernel) (by decide +kernel)
  | 1,_=>right_gen (suOf (trt 1)) _ _ (381 / 1250) (isR_lit2 _ _ 381 1250 (381 / 1250) (by decide +kernel) (by decide +kernel) (by decide +kernel) (by decide +kernel) (by decide +kernel) (by decide +kernel) (by decide +kernel) (by decide +kernel) (by decide +kernel)) (by decide +kernel) (by decide +kernel)
  | 2,_=>right_gen (suOf (trt 2)) _ _ (1143 / 625) (isR_lit2 _ _ 1143 625 (1143 / 625) (by decide +kernel) (by decide +kernel) (by decide +kernel) (by decide +kernel) (by decide +kernel) (by decide +kernel) (by decide +kernel) (by decide +kernel) (by decide +kernel)) (by decide +kernel) (by decide +kernel)
  | 3,_=>right_gen (suOf (trt 3)) _ _ (127 / 1250) (isR_lit2 _ _ 127 1250 (127 / 1250) (by decide +kernel) (by decide +kernel) (by decide +kernel) (by decide +kernel) (by decide +kernel) (by decide +kernel) (by decide +kernel) (by decide +kernel) (by decide +kernel)) (by decide +kernel) (by decide +kernel)
  | 4,_=>right_gen (suOf (trt 4)) _ _ 1852 (isR_lit2 _ _ 1852 1 1852 (by decide +kernel) (by decide +kernel) (by decide +kernel) (by decide +kernel) (by decide +kernel) (by decide +kernel) (by decide +kernel) (by decide +kernel) (by decide +kernel)) (by decide +kernel) (by decide +kernel)
  | 5,_=>right_gen (suOf (trt 5)) _ _ (463 / 900) (isR_lit2 _ _ 463 900 (463 / 900) (by decide +kernel) (by decide +kernel) (by decide +kernel) (by decide +kernel) (by decide +kernel) (by decide +kernel) (by decide +kernel) (by decide +kernel) (by decide +kernel)) (by decide +kernel) (by decide +kernel)
  | 6,_=>right_gen (suOf (trt 6)) _ _ (1143 / 1250) (isR_lit2 _ _ 1143 1250 (1143 / 1250) (by decide +kernel) (by decide +kernel) (by decide +kernel) (by decide +kernel) (by decide +kernel) (by decide +kernel) (by decide +kernel) (by decide +kernel) (by decide +kernel)) (by decide +kernel) (by decide +kernel)
  | 7,_=>right_gen (suOf (trt 7)) _ _ (201168 / 125) (isR_lit2 _ _ 201168 125 (201168 / 125) (by decide +kernel) (by decide +kernel) (by decide +kernel) (by decide +kernel) (by decide +kernel) (by decide +kernel) (by decide +kernel) (by decide +kernel) (by decide +kernel)) (by decide +kernel) (by decide +kernel)
  | 8,_=>right_gen (suOf (trt 8)) _ _ (316160658 / 78125) (isR_lit2 _ _ 316160658 78125 (316160658 / 78125) (by decide +kernel) (by decide +kernel) (by decide +kernel) (by decide +kernel) (by decide +kernel) (by decide +kernel) (by decide +kernel) (by decide +kernel) (by decide +kernel)) (by decide +kernel) (by decide +kernel)
  | 9,_=>right_gen (suOf (trt 9)) _ _ 101325 (isR_lit2 _ _ 101325 1 101325 (by decide +kernel) (by decide +kernel) (by decide +kernel) (by decide +kernel) (by decide +kernel) (by decide +kernel) (by decide +kernel) (by decide +kernel) (by decide +kernel)) (by decide +kernel) (by decide +kernel)
  | 10,_=>right_gen (suOf (trt 10)) _ _ (523 / 125) (isR_lit2 _ _ 523 125 (523 / 125) (by decide +kernel) (by decide +kernel) (by decide +kernel) (by decide +kernel) (by decide +kernel) (by decide +kernel) (by decide +kernel) (by decide +kernel) (by decide +kernel)) (by decide +kernel) (by decide +kernel)
  | 11,_=>right_gen (suOf (trt 11)) _ _ (473176473 / 125000000000) (isR_lit2 _ _ 473176473 125000000000 (473176473 / 125000000000) (by decide +kernel) (by decide +kernel) (by decide +kernel) (by decide +kernel) (by decide +kernel) (by decide +kernel) (by decide +kernel) (by decide +kernel) (by decide +kernel)) (by decide +kernel) (by decide +kernel)
  | 12,_=>right_gen (suOf (trt 12)) _ _ (473176473 / 1000000000000) (isR_lit2 _ _ 473176473 1000000000000 (473176473 / 1000000000000) (by decide +kernel) (by decide +kernel) (by decide +kernel) (by decide +kernel) (by decide +kernel) (by decide +kernel) (by decide +kernel) (by decide +kernel) (by decide +kernel)) (by decide +kernel) (by decide +kernel)
  | 13,_=>right_gen (suOf (trt 13)) _ _ (45359237 / 100000000) (isR_lit2 _ _ 45359237 100000000 (45359237 / 100000000) (by decide +kernel) (by decide +kernel) (by decide +kernel) (by decide +kernel) (by decide +kernel) (by decide +kernel) (by decide +kernel) (by decide +kernel) (by decide +kernel)) (by decide +kernel) (by decide +kernel)
  | 14,_=>right_gen (suOf (trt 14)) _ _ (6479891 / 100000000000) (isR_lit2 _ _ 6479891 100000000000 (6479891 / 100000000000) (by decide +kernel) (by decide +kernel) (by decide +kernel) (by decide +kernel) (by decide +kernel) (by decide +kernel) (by decide +kernel) (by decide +kernel) (by decide +kernel)) (by decide +kernel) (by decide +kernel)
  | 15,_=>right_gen (suOf (trt 15)) _ _ (45359237 / 1600000000) (isR_lit2 _ _ 45359237 1600000000 (45359237 / 1600000000) (by decide +kernel) (by decide +kernel) (by decide +kernel) (by decide +kernel) (by decide +kernel) (by decide +kernel) (by decide +kernel) (by decide +kernel) (by decide +kernel)) (by decide +kernel) (by decide +kernel)
  | 16,_=>right_gen (suOf (trt 16)) _ _ (8896443230521 / 2000000000000) (isR_lit2 _ _ 8896443230521 2000000000000 (8896443230521 / 2000000000000) (by decide +kernel) (by decide +kernel) (by decide +kernel) (by decide +kernel) (by decide +kernel) (by decide +kernel) (by decide +kernel) (by decide +kernel) (by decide +kernel)) (by decide +kernel) (by decide +kernel)
  | 17,_=>right_gen (suOf (trt 17)) _ _ (37284993579113511 / 50000000000000) (isR_lit2 _ _ 37284993579113511 50000000000000 (37284993579113511 / 50000000000000) (by decide +kernel) (by decide +kernel) (by decide +kernel) (by decide +kernel) (by decide +kernel) (by decide +kernel) (by decide +kernel) (by decide +kernel) (by decide +kernel)) (by decide +kernel) (by decide +kernel)
  | 18,_=>right_gen (suOf (trt 18)) _ _ (8896443230521 / 1290320000) (isR_lit2 _ _ 8896443230521 1290320000 (8896443230521 / 1290320000) (by decide +kernel) (by decide +kernel) (by decide +kernel) (by decide +kernel) (by decide +kernel) (by decide +kernel) (by decide +kernel) (by decide +kernel) (by decide +kernel)) (by decide +kernel) (by decide +kernel)
  | 19,_=>right_gen (suOf (trt 19)) _ _ (317514659 / 50000000) (isR_lit2 _ _ 317514659 50000000 (317514659 / 50000000) (by decide +kernel) (by decide +kernel) (by decide +kernel) (by decide +kernel) (by decide +kernel) (by decide +kernel) (by decide +kernel) (by decide +kernel) (by decide +kernel)) (by decide +kernel) (by decide +kernel)
  | 20,_=>right_gen (suOf (trt 20)) _ _ (45359237 / 50000) (isR_lit2 _ _ 45359237 50000 (45359237 / 50000) (by decide +kernel) (by decide +kernel) (by decide +kernel) (by decide +kernel) (by decide +kernel) (by decide +kernel) (by decide +kernel) (by decide +kernel) (by decide +kernel)) (by decide +kernel) (by decide +kernel)
  | 21,_=>right_gen (suOf (trt 21)) _ _ (20265 / 152) (isR_lit2 _ _ 20265 152 (20265 / 152) (by decide +kernel) (by decide +kernel) (by decide +kernel) (by decide +kernel) (by decide +kernel) (by decide +kernel) (by decide +kernel) (by decide +kernel) (by decide +kernel)) (by decide +kernel) (by decide +kernel)
  | _+22,h=>absurd h (by omega)
def DDt:Nat→DataW Unit
  | 0=>.map []
  | k+1=>((DDt k).put (.string (trt k).nm.data.toList) (.lit (.bool true))).put (.string (trt k).sy.data.toList) (.lit (.bool true))
theorem hasT_nm:∀k,k<22→Maps.has (DDt k) (.string (trt k).nm.data.toList)=false
  | 0,_=>by kernel_rfl
  | 1,_=>by kernel_rfl
  | 2,_=>by kernel_rfl
  | 3,_=>by kernel_rfl
  | 4,_=>by kernel_rfl
  | 5,_=>by kernel_rfl
  | 6,_=>by kernel_rfl
  | 7,_=>by kernel_rfl
  | 8,_=>by kernel_rfl
  | 9,_=>by kernel_rfl
  | 10,_=>by kernel_rfl
  | 11,_=>by kernel_rfl
  | 12,_=>by kernel_rfl
  | 13,_=>by kernel_rfl
  | 14,_=>by kernel_rfl
  | 15,_=>by kernel_rfl
  | 16,_=>by kernel_rfl
  | 17,_=>by kernel_rfl
  | 18,_=>by kernel_rfl
  | 19,_=>by kernel_rfl
  | 20,_=>by kernel_rfl
  | 21,_=>by kernel_rfl
  | _+22,h=>absurd h (by omega)
theorem hasT_sy:∀k,k<22→Maps.has (DDt k) (.string (trt k).sy.data.toList)=false
  | 0,_=>by kernel_rfl
  | 1,_=>by kernel_rfl
  | 2,_=>by kernel_rfl
  | 3,_=>by kernel_rfl
  | 4,_=>by kernel_rfl
  | 5,_=>by kernel_rfl
  | 6,_=>by kernel_rfl
  | 7,_=>by kernel_rfl
  | 8,_=>by kernel_rfl
  | 9,_=>by kernel_rfl
  | 10,_=>by kernel_rfl
  | 11,_=>by kernel_rfl
  | 12,_=>by kernel_rfl
  | 13,_=>by kernel_rfl
  | 14,_=>by kernel_rfl
  | 15,_=>by kernel_rfl
  | 16,_=>by kernel_rfl
  | 17,_=>by kernel_rfl
  | 18,_=>by kernel_rfl
  | 19,_=>by kernel_rfl
  | 20,_=>by kernel_rfl
  | 21,_=>by kernel_rfl
  | _+22,h=>absurd h (by omega)
theorem small_tr:∀k,k<22→(trt k).nm.size≤maxLen∧(trt k).sy.size≤maxLen
  | 0,_=>⟨by decide,by decide⟩
  | 1,_=>⟨by decide,by decide⟩
  | 2,_=>⟨by decide,by decide⟩
  | 3,_=>⟨by decide,by decide⟩
  | 4,_=>⟨by decide,by decide⟩
  | 5,_=>⟨by decide,by decide⟩
  | 6,_=>⟨by decide,by decide⟩
  | 7,_=>⟨by decide,by decide⟩
  | 8,_=>⟨by decide,by decide⟩
  | 9,_=>⟨by decide,by decide⟩
  | 10,_=>⟨by decide,by decide⟩
  | 11,_=>⟨by decide,by decide⟩
  | 12,_=>⟨by decide,by decide⟩
  | 13,_=>⟨by decide,by decide⟩
  | 14,_=>⟨by decide,by decide⟩
  | 15,_=>⟨by decide,by decide⟩
  | 16,_=>⟨by decide,by decide⟩
  | 17,_=>⟨by decide,by decide⟩
  | 18,_=>⟨by decide,by decide⟩
  | 19,_=>⟨by decide,by decide⟩
  | 20,_=>⟨by decide,by decide⟩
  | 21,_=>⟨by decide,by decide⟩
  | _+22,h=>absurd h (by omega)
def usT (k:Nat):List (Array Value):=(List.range k).map fun i=>rtT (trt i)
theorem usT_succ (k:Nat):usT (k+1)=usT k ++ [rtT (trt k)]:=by unfold usT;rw[List.range_succ,List.map_append];rfl
theorem usT_len (k:Nat):(usT k).length=k:=by simp[usT]
theorem usT_is (n k:Nat) (u:Array Value) (h:(usT n)[k]?=some u):IsU u:=by
  unfold usT at h
  rw[List.getElem?_map]at h
  obtain⟨i,_,rfl⟩:=Option.map_eq_some_iff.1 h
  exact⟨_,_,_,_,_,_,_,_,_,_,_,_,_,_,_,rfl⟩
theorem RG.withK {W:World} {K K':Nat→Nat→Array Value→Prop} {base r m n:Nat} {vs:Value} {ps:List Nat} {us:List (Array Value)} {D:DataW Unit} (h:RG W K base r m vs ps us n D) (hk:∀(g ty:Nat) (us:Array Value),K' g ty us→ty≠116∧ty≠121∧OwnU W g ty us):RG W K' base r m vs ps us n D:=⟨h.k0,h.row,h.mp,h.un,h.bs,hk⟩
def KS (gp gs:Nat) (pa cur:Array Value):Nat→Nat→Array Value→Prop:=fun b ty us=>(b=gp∧ty=52∧us=pa)∨(b=gs∧ty=58∧us=cur)
theorem R3.same {W V:World} {g k f:Nat} {nm sy:ByteArray} (h:R3 W g k nm sy f) (e:V.heap[g]?=W.heap[g]?):R3 V g k nm sy f:=by
  have c:∀o,V.cell? ⟨g,o,none⟩=W.cell? ⟨g,o,none⟩:=fun o=>by simp only[World.cell?,e]
  exact⟨(c _).trans h.c0,(c _).trans h.c1,(c _).trans h.c2⟩
theorem addT (K:Nat→Nat→Array Value→Prop) (k:Nat) (hk:k<22) (r m:Nat) (vs:Value) (ps:List Nat) (w W:World) (htab:Tab w) (h:RG W K w.heap.size r m vs ps (usT k) (2*k) (DDt k)) (hl:ps.length=k) (hb:Below w.heap.size w W) (hm:w.heap.size≤m) (hr:w.heap.size≤r) :
    Calls Tryz.prog 35 #[.pointer (some ⟨r,0,none⟩),.agg (rtT (trt k))] W fun e w'=>e=.returned (I 0)∧(∃p v',RG w' K w.heap.size r m v' (ps ++ [p]) (usT (k+1)) (2*(k+1)) (DDt (k+1)))∧Below w.heap.size w w':=by
  rw[usT_succ]
  exact add_any _ _ _ _ _ _ _ _ _ _ _ _ _ _ _ w.heap.size r m (2*k) vs ps (usT k) (DDt k) w W h (by rw[usT_len,hl]) hb hm hr (by omega) (by omega) (small_tr k hk).1 (small_tr k hk).2 (fun V hV=>right_tr k hk V (htab.later (hb.trans (hV.mono hb.size)))) (hasT_nm k hk) (hasT_sy k hk)
set_option maxRecDepth 100000 in
set_option maxHeartbeats 8000000 in
theorem trUnits (w:World) (htab:Tab w):Calls Tryz.prog 11 #[] w fun e w'=>∃v,e=.returned v∧w'.ownsRow w.heap.size 30 15 v 22 (flatU (usT 22) 22)∧Below w.heap.size w w':=by
  obtain⟨pa,hpa⟩:∃pa,pa=partsT:=⟨_,rfl⟩
  have HZ:Hid (pa.size=75):=by rw[hpa];exact partsT_size
  have HON:Hid (pa.all (·.oneCell')=true):=by rw[hpa];exact partsT_ones
  have HPA:Hid (∀W,Below w.heap.size w W→Calls Tryz.prog 33 #[] W fun r w'=>r=.returned (.agg pa)∧Below W.heap.size W w'):=by rw[hpa];exact fun W h=>partsT_any W (htab.later h)
  have HTO:Hid (∀k,k<22→∀W,Below w.heap.size w W→Calls Tryz.prog 36 #[.agg (rowA (trt k)),.agg pa] W fun r w'=>r=.returned (.agg (rtT (trt k)))∧Below W.heap.size W w'):=by rw[hpa];exact fun k hk W h=>told_tr k hk W (htab.later h)
  clear hpa
  have HT:=hide htab
  clear htab
  go_enter Tryz.func11,Tryz.ntmps11
  go_upto_region 2 with (first
    | (go_at_call 32;go_must(refine(new_any _).mono ?_;rintro e w1 ⟨rfl,hr,hb⟩;have HR1:=hide hr;have HB1:=hide hb;clear hr hb))
    | (go_at_call 33;go_must(refine(un HPA _ (un HB1)).mono ?_;rintro e w2 ⟨rfl,hb⟩;have HR2:=hide ((un HR1).later hb);have HB2:Hid (Below w.heap.size w w2):=(un HB1).trans (hb.mono (un HB1).size);clear hb HR1 HB1))
    | (refine storeT 52 75 info52 rfl (.tmp 2) (.tmp 6) rfl w2.heap.size Tryz.zeroCells52 pa z52 (un HZ) rfl rfl (OwnU.new _ _ _) (un HON) ?_))
  have hb3:Below w2.heap.size w2 ((w2.alloc (.cells Tryz.zeroCells52 52)).setRow w2.heap.size pa):=below_setRow (albel _ _) (Nat.le_refl _) _
  have HP3:Hid (OwnU ((w2.alloc (.cells Tryz.zeroCells52 52)).setRow w2.heap.size pa) w2.heap.size 52 pa):=(OwnU.new _ _ _).setRow _
  have HR3:=hide ((un HR2).later hb3)
  have HB3:Hid (Below w.heap.size w _):=(un HB2).trans (hb3.mono (un HB2).size)
  clear hb3 HR2 HB2
  generalize (w2.alloc (.cells Tryz.zeroCells52 52)).setRow w2.heap.size pa=w3 at *
  generalize w2.heap.size=gp at *
  go_upto_region 3 with (go_at_call 34;go_must(refine(rowsT _).mono ?_;rintro e w0 ⟨rfl,rfl⟩))
  obtain⟨w4,hw4⟩:∃w4,w4=w3.alloc (.cells rows22 58):=⟨_,rfl⟩
  have hb4:Below w3.heap.size w3 w4:=by rw[hw4];exact albel _ _
  have hcur:OwnU w4 w3.heap.size 58 rows22:=by rw[hw4];exact OwnU.new _ _ _
  have HRW:Hid (∀V,OwnU V w3.heap.size 58 rows22→∀k,k<22→R3 V w3.heap.size k (trt k).nm (trt k).sy (trt k).f):=fun V hV k hk=>(rows22_at w3 k hk).same (hV.trans (OwnU.new w3 rows22 58).symm)
  have HR4:=hide ((un HR3).later hb4);have HP4:=hide ((un HP3).later hb4);have HB4:Hid (Below w.heap.size w w4):=(un HB3).trans (hb4.mono (un HB3).size)
  rw[←hw4]
  obtain⟨cur,hcu⟩:∃cur,cur=rows22:=⟨_,rfl⟩
  rw[←hcu]at hcur HRW
  clear hw4 hb4 HR3 HP3 HB3 hcu
  generalize w3.heap.size=gR at *
  have HR5:Hid (RG w4 (KS gp gR pa cur) w.heap.size (w.heap.size+1) w.heap.size (.slice none 0 0) [] [] 0 (.map [])):=RG.withK (un HR4) (by
    rintro g ty us (⟨rfl,rfl,rfl⟩|⟨rfl,rfl,rfl⟩)
    · exact⟨by decide,by decide,un HP4⟩
    · exact⟨by decide,by decide,hcur⟩)
  obtain⟨r,hr⟩:∃r,r=w.heap.size+1:=⟨_,rfl⟩
  have HRB:Hid (w.heap.size≤r):=by show _≤_;omega
  rw[←hr]at HR5 ⊢
  clear hr HR4 HP4 hcur
  go_loopw [9] (fun s9 wr=>∃(k:Nat) (ps:List Nat) (vs:Value),k≤22∧s9=I (k:Int)∧Hid (ps.length=k)∧Hid (RG wr (KS gp gR pa cur) w.heap.size r w.heap.size vs ps (usT k) (2*k) (DDt k))∧Hid (Below w.heap.size w wr)) (fun s9 _=>22 - (intOf s9).toNat)
  case atStart=>exact⟨0,[],_,by omega,rfl,rfl,HR5,HB4⟩
  case round=>
    clear HR5 HB4
    obtain⟨k,ps,vs,hk,rfl,HL,HR,HB⟩:=hrel
    by_cases hlt:k<22
    · have hkI:(k:Int)<22:=by omega
      have hk0:(0:Int)≤(k:Int):=by omega
      have hrow:=un HRW wr ((un HR).ex gR 58 cur (Or.inr ⟨rfl,rfl,rfl⟩)).2.2 k hlt
      have c0:=hrow.c0;have c1:=hrow.c1;have c2:=hrow.c2
      clear hrow
      have HTD:=hide (un HTO k hlt)
      have HAD:Hid (∀W,RG W (KS gp gR pa cur) w.heap.size r w.heap.size vs ps (usT k) (2*k) (DDt k)→Below w.heap.size w W→Calls Tryz.prog 35 #[.pointer (some ⟨r,0,none⟩),.agg (rtT (trt k))] W fun e w'=>e=.returned (I 0)∧(∃p v',RG w' (KS gp gR pa cur) w.heap.size r w.heap.size v' (ps ++ [p]) (usT (k+1)) (2*(k+1)) (DDt (k+1)))∧Below w.heap.size w w'):=fun W h1 h2=>addT _ k hlt r _ vs ps w W (un HT) h1 (un HL) h2 (Nat.le_refl _) (un HRB)
      unfold rowA at HTD
      generalize rtT (trt k)=out at *
      generalize (trt k).nm=nm at *
      generalize (trt k).sy=sy at *
      generalize (trt k).f=f at *
      go_upto_region 5 with fail
      clear c0 c1 c2
      have hb2:Below wr.heap.size wr (wr.alloc (.cells #[.string nm,.string sy,.func (.func f) #[] #[]] 58)):=albel _ _
      have HX:Hid (OwnU (wr.alloc (.cells #[.string nm,.string sy,.func (.func f) #[] #[]] 58)) wr.heap.size 58 #[.string nm,.string sy,.func (.func f) #[] #[]]):=OwnU.new _ _ _
      have HR3:=hide ((un HR).later hb2)
      have HB3:Hid (Below w.heap.size w _):=(un HB).trans (hb2.mono (un HB).size)
      clear hb2 HR HB
      generalize wr.alloc (.cells #[.string nm,.string sy,.func (.func f) #[] #[]] 58)=w5 at *
      generalize wr.heap.size=g4 at *
      have HPX:Hid (OwnU w5 gp 52 pa):=((un HR3).ex gp 52 pa (Or.inl ⟨rfl,rfl,rfl⟩)).2.2
      have d0:=(un HX).ub.c 0 _ rfl;have d1:=(un HX).ub.c 1 _ rfl;have d2:=(un HX).ub.c 2 _ rfl
      go_wp2_with (first
        | (refine wpList_load_row rfl 52 (.tmp 2) rfl gp rfl 52 pa (0,0) _ (un HPX) Tryz.underlying52 rfl (by rw[info52,un HZ]) ?_)
        | (go_at_call 36;go_must(refine(un HTD _ (un HB3)).mono ?_;rintro e wt ⟨rfl,hbt⟩;have HR4:=hide ((un HR3).later hbt);have HB4:Hid (Below w.heap.size w wt):=(un HB3).trans (hbt.mono (un HB3).size);clear hbt d0 d1 d2))
        | (go_at_call 35;go_must(refine(un HAD _ (un HR4) (un HB4)).mono ?_;rintro e wu ⟨rfl,⟨p,v',hr5⟩,hb5⟩;have HR5:=hide hr5;have HB5:=hide hb5;clear hr5 hb5)))
      go_roundw
      case rel=>exact⟨k+1,ps ++ [p],v',by omega,by go_num,(by have h:=un HL;show(ps ++ [p]).length=k+1;rw[List.length_append,h];rfl),HR5,HB5⟩
      case measure=>simp[intOf];omega
    · have hkI:¬(k:Int)<22:=by omega
      have HK:Hid (k=22):=by show k=22;omega
      have HUN:Hid (Calls Tryz.prog 37 #[.pointer (some ⟨r,0,none⟩)] wr fun e w'=>∃v,e=.returned v∧w'.ownsRow wr.heap.size 30 15 v 22 (flatU (usT 22) 22)∧Below wr.heap.size wr w'):=by
        have h:=un HR
        have hl:=un HL
        rw[un HK]at h hl
        have hh:=units_any _ _ _ _ _ _ _ _ wr h (by rw[usT_len,hl]) (by omega) (by omega) (usT_is 22)
        rw[hl]at hh
        exact hh
      go_wp2_with (go_at_call 37;go_must(refine(un HUN).mono ?_;rintro e wt ⟨v,rfl,ho,hbt⟩;have HO:=hide ho;have HB4:Hid (Below w.heap.size w wt):=(un HB).trans (hbt.mono (un HB).size);clear hbt ho))
      go_ret
      exact⟨v,rfl,(un HO).mono (un HB).size,un HB4⟩
end Go.Proofs.YtamoadanapmmeaaGreatDoor.Tr

namespace Go.Proofs.YtamoadanapmmeaaGreatDoor
open Go.RowKit
theorem info3U:∃i,Tryz.prog.info? 3=some i:=Option.isSome_iff_exists.1 (by kernel_rfl)
theorem cells3U:Tryz.prog.cellsOf 3=1:=by kernel_rfl
section
variable (nm sy:ByteArray) (d0 d1 d2 d3 d4 d5 d6 d7:Int) (fn fd on od:ByteArray) (tk:Int)
theorem eqD (d:Nat) (w:World):(Op.equalIn (d+2) 26 (.agg #[I d0,I d1,I d2,I d3,I d4,I d5,I d6,I d7]) (.agg #[I d0,I d1,I d2,I d3,I d4,I d5,I d6,I d7])).run Tryz.prog w=.ok true w:=by
 obtain⟨inf,hinf⟩:=info3U
 rw[show d+2=(d+1)+1 from rfl,run_equalIn_array w (d+1) _ _ Tryz.underlying26 hinf,cells3U,show List.range 8=[0,1,2,3,4,5,6,7]from rfl]
 have p0:∀w:World,(part 3 #[I d0,I d1,I d2,I d3,I d4,I d5,I d6,I d7] (0*1)).run Tryz.prog w=.ok (I d0) w:=fun _=>by kernel_rfl
 have p1:∀w:World,(part 3 #[I d0,I d1,I d2,I d3,I d4,I d5,I d6,I d7] (1*1)).run Tryz.prog w=.ok (I d1) w:=fun _=>by kernel_rfl
 have p2:∀w:World,(part 3 #[I d0,I d1,I d2,I d3,I d4,I d5,I d6,I d7] (2*1)).run Tryz.prog w=.ok (I d2) w:=fun _=>by kernel_rfl
 have p3:∀w:World,(part 3 #[I d0,I d1,I d2,I d3,I d4,I d5,I d6,I d7] (3*1)).run Tryz.prog w=.ok (I d3) w:=fun _=>by kernel_rfl
 have p4:∀w:World,(part 3 #[I d0,I d1,I d2,I d3,I d4,I d5,I d6,I d7] (4*1)).run Tryz.prog w=.ok (I d4) w:=fun _=>by kernel_rfl
 have p5:∀w:World,(part 3 #[I d0,I d1,I d2,I d3,I d4,I d5,I d6,I d7] (5*1)).run Tryz.prog w=.ok (I d5) w:=fun _=>by kernel_rfl
 have p6:∀w:World,(part 3 #[I d0,I d1,I d2,I d3,I d4,I d5,I d6,I d7] (6*1)).run Tryz.prog w=.ok (I d6) w:=fun _=>by kernel_rfl
 have p7:∀w:World,(part 3 #[I d0,I d1,I d2,I d3,I d4,I d5,I d6,I d7] (7*1)).run Tryz.prog w=.ok (I d7) w:=fun _=>by kernel_rfl
 have e:=fun w a b=>run_equalIn_int (P:=Tryz.prog) w d 3 .i64 .i64 a b Tryz.underlying3
 simp only[Op.eqItems,Sem.run_bind,p0,p1,p2,p3,p4,p5,p6,p7,Result.andThen_ok,e,Sem.run_ite,Sem.run_pure]
 simp
theorem fieldsQ:∃f0 f1,(Tryz.prog.fieldsOf 28).toList=[f0,f1]∧f0.type=9∧f0.offset=0∧f0.name≠"_"∧f1.type=9∧f1.offset=1∧f1.name≠"_":=by
 unfold Program.fieldsOf
 rw[Tryz.underlying28]
 exact⟨_,_,rfl,rfl,rfl,by decide +kernel,rfl,rfl,by decide +kernel⟩
theorem eqQ (d:Nat) (w:World):(Op.equalIn (d+2) 28 (.agg #[.string fn,.string fd]) (.agg #[.string fn,.string fd])).run Tryz.prog w=.ok true w:=by
 rw[show d+2=(d+1)+1 from rfl,run_equalIn_struct w (d+1) 28 _ _ (by kernel_rfl) (by kernel_rfl)]
 obtain⟨f0,f1,hf,t0,o0,n0,t1,o1,n1⟩:=fieldsQ
 rw[hf]
 have p0:∀w:World,(part 9 #[.string fn,.string fd] 0).run Tryz.prog w=.ok (.string fn) w:=fun _=>by kernel_rfl
 have p1:∀w:World,(part 9 #[.string fn,.string fd] 1).run Tryz.prog w=.ok (.string fd) w:=fun _=>by kernel_rfl
 have e:=fun w a b=>run_equalIn_string (P:=Tryz.prog) w d 9 a b Tryz.underlying9
 simp only[Op.eqFields,n0,n1,t0,t1,o0,o1,Sem.run_bind,p0,p1,Result.andThen_ok,e,Sem.run_ite,Sem.run_pure,ne_eq,not_false_eq_true,if_true]
 simp
theorem fieldsU:∃f0 f1 f2 f3 f4 f5,(Tryz.prog.fieldsOf 30).toList=[f0,f1,f2,f3,f4,f5]∧(f0.type=9∧f0.offset=0∧f0.name≠"_")∧(f1.type=9∧f1.offset=1∧f1.name≠"_")∧(f2.type=26∧f2.offset=2∧f2.name≠"_")∧(f3.type=28∧f3.offset=10∧f3.name≠"_")∧(f4.type=28∧f4.offset=12∧f4.name≠"_")∧(f5.type=3∧f5.offset=14∧f5.name≠"_"):=by
 unfold Program.fieldsOf
 rw[Tryz.underlying30]
 exact⟨_,_,_,_,_,_,rfl,⟨rfl,rfl,by decide +kernel⟩,⟨rfl,rfl,by decide +kernel⟩,⟨rfl,rfl,by decide +kernel⟩,⟨rfl,rfl,by decide +kernel⟩,⟨rfl,rfl,by decide +kernel⟩,⟨rfl,rfl,by decide +kernel⟩⟩
theorem eqU (w:World):(Op.equalIn 10000 30 (.agg #[.string nm,.string sy,I d0,I d1,I d2,I d3,I d4,I d5,I d6,I d7,.string fn,.string fd,.string on,.string od,I tk]) (.agg #[.string nm,.string sy,I d0,I d1,I d2,I d3,I d4,I d5,I d6,I d7,.string fn,.string fd,.string on,.string od,I tk])).run Tryz.prog w=.ok true w:=by
 rw[show(10000:Nat)=9999+1 from rfl,run_equalIn_struct w 9999 30 _ _ (by kernel_rfl) (by kernel_rfl)]
 obtain⟨f0,f1,f2,f3,f4,f5,hf,⟨t0,o0,n0⟩,⟨t1,o1,n1⟩,⟨t2,o2,n2⟩,⟨t3,o3,n3⟩,⟨t4,o4,n4⟩,⟨t5,o5,n5⟩⟩:=fieldsU
 rw[hf]
 have p0:∀w:World,(part 9 #[.string nm,.string sy,I d0,I d1,I d2,I d3,I d4,I d5,I d6,I d7,.string fn,.string fd,.string on,.string od,I tk] 0).run Tryz.prog w=.ok (.string nm) w:=fun _=>by kernel_rfl
 have p1:∀w:World,(part 9 #[.string nm,.string sy,I d0,I d1,I d2,I d3,I d4,I d5,I d6,I d7,.string fn,.string fd,.string on,.string od,I tk] 1).run Tryz.prog w=.ok (.string sy) w:=fun _=>by kernel_rfl
 have p2:∀w:World,(part 26 #[.string nm,.string sy,I d0,I d1,I d2,I d3,I d4,I d5,I d6,I d7,.string fn,.string fd,.string on,.string od,I tk] 2).run Tryz.prog w=.ok (.agg #[I d0,I d1,I d2,I d3,I d4,I d5,I d6,I d7]) w:=fun _=>by kernel_rfl
 have p3:∀w:World,(part 28 #[.string nm,.string sy,I d0,I d1,I d2,I d3,I d4,I d5,I d6,I d7,.string fn,.string fd,.string on,.string od,I tk] 10).run Tryz.prog w=.ok (.agg #[.string fn,.string fd]) w:=fun _=>by kernel_rfl
 have p4:∀w:World,(part 28 #[.string nm,.string sy,I d0,I d1,I d2,I d3,I d4,I d5,I d6,I d7,.string fn,.string fd,.string on,.string od,I tk] 12).run Tryz.prog w=.ok (.agg #[.string on,.string od]) w:=fun _=>by kernel_rfl
 have p5:∀w:World,(part 3 #[.string nm,.string sy,I d0,I d1,I d2,I d3,I d4,I d5,I d6,I d7,.string fn,.string fd,.string on,.string od,I tk] 14).run Tryz.prog w=.ok (I tk) w:=fun _=>by kernel_rfl
 have e:=fun w a b=>run_equalIn_string (P:=Tryz.prog) w 9998 9 a b Tryz.underlying9
 have e3:=fun w a b=>run_equalIn_int (P:=Tryz.prog) w 9998 3 .i64 .i64 a b Tryz.underlying3
 have ed:=eqD d0 d1 d2 d3 d4 d5 d6 d7 9997
 have eq1:=eqQ fn fd 9997
 have eq2:=eqQ on od 9997
 simp only[Op.eqFields,n0,n1,n2,n3,n4,n5,t0,t1,t2,t3,t4,t5,o0,o1,o2,o3,o4,o5,Sem.run_bind,p0,p1,p2,p3,p4,p5,Result.andThen_ok,e,e3,ed,eq1,eq2,Sem.run_ite,Sem.run_pure,ne_eq,not_false_eq_true,if_true]
 simp
end
end Go.Proofs.YtamoadanapmmeaaGreatDoor

namespace Go.Proofs.YtamoadanapmmeaaGreatDoor.Tr
open Go.RowKit
theorem flat_all:flatU (usT 22) 22=uAllT.toList:=by kernel_rfl
theorem flat_at {W:World} {base g cap:Nat} (h:W.ownsRow base 30 15 (.slice (some ⟨g,0,none⟩) 22 cap) 22 (flatU (usT 22) 22)) (k:Nat) (hk:k<22):UR W g k:=fun i v e=>by
 have hi:i<15:=(Array.getElem?_eq_some_iff.1 e).1
 rw[h.cellAt (k*15+i) (by omega),flat_all]
 simpa using uAllT_row k hk i v e
theorem neqU (nm sy fn fd on od:ByteArray) (d0 d1 d2 d3 d4 d5 d6 d7 tk:Int) (w:World):(binOp .neq 30 (.agg #[.string nm,.string sy,I d0,I d1,I d2,I d3,I d4,I d5,I d6,I d7,.string fn,.string fd,.string on,.string od,I tk]) (.agg #[.string nm,.string sy,I d0,I d1,I d2,I d3,I d4,I d5,I d6,I d7,.string fn,.string fd,.string on,.string od,I tk])).run Tryz.prog w=.ok (.bool false) w:=by
 rw[run_neq_struct,eqU]
 rfl
set_option maxRecDepth 100000 in
set_option maxHeartbeats 4000000 in
theorem same_any (w:World) (g1 c1 g2 c2:Nat) (hg1:g1<w.heap.size) (hg2:g2<w.heap.size) (h1:∀k,k<22→UR w g1 k) (h2:∀k,k<22→UR w g2 k) :
  Calls Tryz.prog 12 #[.slice (some ⟨g1,0,none⟩) 22 c1,.slice (some ⟨g2,0,none⟩) 22 c2] w fun r w'=>r=.returned (.bool true)∧Below w.heap.size w w':=by
 have H1:=hide h1;have H2:=hide h2
 clear h1 h2
 go_enter Tryz.func12,Tryz.ntmps12
 go_wp2_with fail
 go_loopw [5] (fun s3 wr=>∃(k:Nat),k≤22∧s3=I (k:Int)∧Hid (Below w.heap.size w wr)) (fun s3 _=>22 - (intOf s3).toNat)
 case atStart=>exact⟨0,by omega,rfl,Below.refl _ _⟩
 case round=>
  obtain⟨k,hk,rfl,HB⟩:=hrel
  by_cases hk8:k<22
  ·have hkI:(k:Int)<22:=by omega
   have hk0:(0:Int)≤(k:Int):=by omega
   have F1:=(un H1 k hk8).later (un HB) hg1
   have F2:=(un H2 k hk8).later (un HB) hg2
   have a0:wr.cell? ⟨g1,k*15,none⟩=some (.string (trt k).nm):=F1 0 _ rfl
   have a1:wr.cell? ⟨g1,k*15+1,none⟩=some (.string (trt k).sy):=F1 1 _ rfl
   have a2:wr.cell? ⟨g1,k*15+2,none⟩=some (I (dvT (trt k) 0)):=F1 2 _ rfl
   have a3:wr.cell? ⟨g1,k*15+3,none⟩=some (I (dvT (trt k) 1)):=F1 3 _ rfl
   have a4:wr.cell? ⟨g1,k*15+4,none⟩=some (I (dvT (trt k) 2)):=F1 4 _ rfl
   have a5:wr.cell? ⟨g1,k*15+5,none⟩=some (I (dvT (trt k) 3)):=F1 5 _ rfl
   have a6:wr.cell? ⟨g1,k*15+6,none⟩=some (I (dvT (trt k) 4)):=F1 6 _ rfl
   have a7:wr.cell? ⟨g1,k*15+7,none⟩=some (I (dvT (trt k) 5)):=F1 7 _ rfl
   have a8:wr.cell? ⟨g1,k*15+8,none⟩=some (I (dvT (trt k) 6)):=F1 8 _ rfl
   have a9:wr.cell? ⟨g1,k*15+9,none⟩=some (I (dvT (trt k) 7)):=F1 9 _ rfl
   have a10:wr.cell? ⟨g1,k*15+10,none⟩=some (.string (trt k).fn):=F1 10 _ rfl
   have a11:wr.cell? ⟨g1,k*15+11,none⟩=some (.string (trt k).fd):=F1 11 _ rfl
   have a12:wr.cell? ⟨g1,k*15+12,none⟩=some (.string ⟨#[48]⟩):=F1 12 _ rfl
   have a13:wr.cell? ⟨g1,k*15+13,none⟩=some (.string ⟨#[49]⟩):=F1 13 _ rfl
   have a14:wr.cell? ⟨g1,k*15+14,none⟩=some (I 0):=F1 14 _ rfl
   have b0:wr.cell? ⟨g2,k*15,none⟩=some (.string (trt k).nm):=F2 0 _ rfl
   have b1:wr.cell? ⟨g2,k*15+1,none⟩=some (.string (trt k).sy):=F2 1 _ rfl
   have b2:wr.cell? ⟨g2,k*15+2,none⟩=some (I (dvT (trt k) 0)):=F2 2 _ rfl
   have b3:wr.cell? ⟨g2,k*15+3,none⟩=some (I (dvT (trt k) 1)):=F2 3 _ rfl
   have b4:wr.cell? ⟨g2,k*15+4,none⟩=some (I (dvT (trt k) 2)):=F2 4 _ rfl
   have b5:wr.cell? ⟨g2,k*15+5,none⟩=some (I (dvT (trt k) 3)):=F2 5 _ rfl
   have b6:wr.cell? ⟨g2,k*15+6,none⟩=some (I (dvT (trt k) 4)):=F2 6 _ rfl
   have b7:wr.cell? ⟨g2,k*15+7,none⟩=some (I (dvT (trt k) 5)):=F2 7 _ rfl
   have b8:wr.cell? ⟨g2,k*15+8,none⟩=some (I (dvT (trt k) 6)):=F2 8 _ rfl
   have b9:wr.cell? ⟨g2,k*15+9,none⟩=some (I (dvT (trt k) 7)):=F2 9 _ rfl
   have b10:wr.cell? ⟨g2,k*15+10,none⟩=some (.string (trt k).fn):=F2 10 _ rfl
   have b11:wr.cell? ⟨g2,k*15+11,none⟩=some (.string (trt k).fd):=F2 11 _ rfl
   have b12:wr.cell? ⟨g2,k*15+12,none⟩=some (.string ⟨#[48]⟩):=F2 12 _ rfl
   have b13:wr.cell? ⟨g2,k*15+13,none⟩=some (.string ⟨#[49]⟩):=F2 13 _ rfl
   have b14:wr.cell? ⟨g2,k*15+14,none⟩=some (I 0):=F2 14 _ rfl
   clear F1 F2
   have hne:=neqU (trt k).nm (trt k).sy (trt k).fn (trt k).fd ⟨#[48]⟩ ⟨#[49]⟩ (dvT (trt k) 0) (dvT (trt k) 1) (dvT (trt k) 2) (dvT (trt k) 3) (dvT (trt k) 4) (dvT (trt k) 5) (dvT (trt k) 6) (dvT (trt k) 7) 0
   generalize (trt k).nm=nm at *
   generalize (trt k).sy=sy at *
   generalize (trt k).fn=fn at *
   generalize (trt k).fd=fd at *
   generalize (dvT (trt k) 0)=d0 at *
   generalize (dvT (trt k) 1)=d1 at *
   generalize (dvT (trt k) 2)=d2 at *
   generalize (dvT (trt k) 3)=d3 at *
   generalize (dvT (trt k) 4)=d4 at *
   generalize (dvT (trt k) 5)=d5 at *
   generalize (dvT (trt k) 6)=d6 at *
   generalize (dvT (trt k) 7)=d7 at *
   go_wp2_with fail
   go_quiet (fail)
   go_wp2_with fail
   go_roundw
   case rel=>exact⟨k+1,by omega,by go_num,below_drewN (un HB) _⟩
   case measure=>simp[intOf];omega
  ·have hkI:¬(k:Int)<22:=by omega
   go_wp2_with fail
   go_ret
   exact⟨rfl,un HB⟩
theorem own_units {W:World} {base:Nat} {v:Value} (h:W.ownsRow base 30 15 v 22 (flatU (usT 22) 22)):∃g cap,v=.slice (some ⟨g,0,none⟩) 22 cap∧base≤g∧g<W.heap.size∧(∀k,k<22→UR W g k)∧(∀o,W.frozen? ⟨g,o,none⟩=false):=by
 obtain⟨g,cap,rfl⟩:=Joins.ownsRow_form h (by decide)
 have hl:=h.lt g rfl
 refine⟨g,cap,rfl,hl.1,hl.2,fun k hk=>flat_at h k hk,?_⟩
 intro o
 obtain⟨_,h2⟩:=h
 rcases h2 with ⟨h2,_⟩|⟨g',cap',cur,e,_,hg,_⟩
 ·cases h2
 ·cases e
  simp[World.frozen?,hg]
structure Spoils (W:World) (g:Nat):Prop where
 c:∀k,k<22→∃u,W.cell? ⟨g,k*15,none⟩=some u
 f:∀o,W.frozen? ⟨g,o,none⟩=false
theorem Spoils.set {W:World} {g:Nat} (h:Spoils W g) (k:Nat) (hk:k<22) (u:Value):Spoils (W.setCell ⟨g,k*15,none⟩ u) g:=by
 refine⟨fun j hj=>?_,fun o=>by rw[World.frozen?_setCell];exact h.f o⟩
 by_cases e:j=k
 ·subst e
  obtain⟨x,hx⟩:=h.c j hj
  exact⟨u,World.cell?_setCell_same _ _ _ hx⟩
 ·obtain⟨x,hx⟩:=h.c j hj
  exact⟨x,by rw[World.cell?_setCell_other _ _ _ _ (by intro e2;simp only[Addr.mk.injEq]at e2;omega)];exact hx⟩
theorem Spoils.later {W V:World} {g:Nat} (h:Spoils W g) (hg:g<W.heap.size) (hb:Below W.heap.size W V):Spoils V g :=
 ⟨fun k hk=>by obtain⟨u,hu⟩:=h.c k hk;exact⟨u,(hb.cell (p:=⟨g,k*15,none⟩) hg).trans hu⟩,fun o=>(hb.frozen (p:=⟨g,o,none⟩) hg).trans (h.f o)⟩
set_option maxRecDepth 100000 in
set_option maxHeartbeats 4000000 in
theorem stands_any (w:World) (htab:Tab w):Calls Tryz.prog 3 #[] w fun r w'=>r=.returned (.bool true)∧Below w.heap.size w w':=by
 have HTW:=hide htab
 clear htab
 go_enter Tryz.func3,Tryz.ntmps3
 go_wp2_with (first
  | (go_at_call 11;go_must(refine(trUnits _ (un HTW)).mono ?_;rintro e wa ⟨va,rfl,hoa,hba⟩;obtain⟨gwa,cwa,rfl,hga0,hga1,hfa,hza⟩:=own_units hoa;have HBA:=hide hba;have HFA:=hide hfa;have HZA:=hide hza;have HGA:=hide (And.intro hga0 hga1);clear hba hfa hza hga0 hga1 hoa))
  | (go_at_call 13;go_must(refine(refUnitsT _).mono ?_;rintro e wb ⟨wz,rfl,hob,hbz⟩;have HBB:Hid (Below wa.heap.size wa wb):=(by rw[hob];exact hbz.alloc hbz.size _);have HFB:Hid (∀k,k<22→UR wb wz.heap.size k):=(fun k hk=>by rw[hob];exact uAllT_at wz k hk);have HGB:Hid (wz.heap.size<wb.heap.size):=(by show _<_;rw[hob];simp);clear hob hbz;generalize wz.heap.size=gwb at *))
  | (go_at_call 12;go_must(refine(same_any _ gwa cwa gwb 22 (Nat.lt_of_lt_of_le (un HGA).2 (un HBB).size) (un HGB) (fun k hk=>(un HFA k hk).later (un HBB) (un HGA).2) (un HFB)).mono ?_;rintro e wc ⟨rfl,hbc⟩;have HBC:=hide hbc;clear hbc)))
 have HW:Hid (Below wa.heap.size wa wc):=(un HBB).trans ((un HBC).mono (un HBB).size)
 have HWC:Hid (Below w.heap.size w wc):=(un HBA).trans ((un HW).mono (un HBA).size)
 have HS:Hid (Spoils wc gwa):=(Spoils.mk (fun k hk=>⟨_,un HFA k hk 0 _ rfl⟩) (un HZA)).later (un HGA).2 (un HW)
 have HGG:Hid (w.heap.size≤gwa):=(un HGA).1
 clear HFA HFB HGB HBB HBC HZA HGA HBA HW
 go_loopw [2] (fun s2 wr=>∃(k:Nat),k≤22∧s2=I (k:Int)∧Hid (Spoils wr gwa)∧Hid (Below w.heap.size w wr)) (fun s2 _=>22 - (intOf s2).toNat)
 case atStart=>exact⟨0,by omega,rfl,HS,HWC⟩
 case round=>
  obtain⟨k,hk,rfl,HSP,HB⟩:=hrel
  by_cases hk8:k<22
  ·have hkI:(k:Int)<22:=by omega
   have hk0:(0:Int)≤(k:Int):=by omega
   obtain⟨u,hu⟩:=(un HSP).c k hk8
   have hf:=(un HSP).f (k*15)
   go_wp2_with fail
   go_roundw
   case rel=>exact⟨k+1,by omega,by go_num,(un HSP).set k hk8 _,(un HB).setCell (p:=⟨gwa,k*15,none⟩) (un HGG) _⟩
   case measure=>simp[intOf];omega
  ·have hkI:¬(k:Int)<22:=by omega
   go_wp2_with (first
  | (go_at_call 11;go_must(refine(trUnits _ ((un HTW).later (un HB))).mono ?_;rintro e wd ⟨va,rfl,hoa,hba⟩;obtain⟨gwd,cwd,rfl,hga0,hga1,hfa,hza⟩:=own_units hoa;have HBA:=hide hba;have HFA:=hide hfa;have HZA:=hide hza;have HGA:=hide (And.intro hga0 hga1);clear hba hfa hza hga0 hga1 hoa))
  | (go_at_call 13;go_must(refine(refUnitsT _).mono ?_;rintro e we ⟨wz,rfl,hob,hbz⟩;have HBB:Hid (Below wd.heap.size wd we):=(by rw[hob];exact hbz.alloc hbz.size _);have HFB:Hid (∀k,k<22→UR we wz.heap.size k):=(fun k hk=>by rw[hob];exact uAllT_at wz k hk);have HGB:Hid (wz.heap.size<we.heap.size):=(by show _<_;rw[hob];simp);clear hob hbz;generalize wz.heap.size=gwe at *))
  | (go_at_call 12;go_must(refine(same_any _ gwd cwd gwe 22 (Nat.lt_of_lt_of_le (un HGA).2 (un HBB).size) (un HGB) (fun k hk=>(un HFA k hk).later (un HBB) (un HGA).2) (un HFB)).mono ?_;rintro e wf ⟨rfl,hbc⟩;have HBC:=hide hbc;clear hbc)))
   go_ret
   have h1:Below wr.heap.size wr wf:=(un HBA).trans (((un HBB).trans ((un HBC).mono (un HBB).size)).mono (un HBA).size)
   exact⟨rfl,(un HB).trans (h1.mono (un HB).size)⟩
end Go.Proofs.YtamoadanapmmeaaGreatDoor.Tr

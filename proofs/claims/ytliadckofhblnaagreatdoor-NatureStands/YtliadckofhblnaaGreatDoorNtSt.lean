/- The law's same (24); NatureStands (8): what stands when main begins. -/
import Derived.Test.YtliadckofhblnaaGreatDoorLimb3
import Derived.Test.YtliadckofhblnaaGreatDoorNtA1
import Derived.Test.YtliadckofhblnaaGreatDoorNmClass
import Derived.Test.YtliadckofhblnaaGreatDoorPower
import Derived.Test.YtliadckofhblnaaGreatDoorReads2
import Derived.Deep.Onto
import Derived.Test.YtliadckofhblnaaGreatDoorFindB
import Derived.ChangeKeysEq
import Derived.Laws.StructEq
import Derived.BigQuiet
set_option maxHeartbeats 8000000
set_option maxRecDepth 100000
namespace Go.Proofs.YtliadckofhblnaaGreatDoor.Nt
open Go.RowKit Go.Maps Go.ChangeMaps Go.WideMaps
theorem putAt_out:∀(l:List Value) (vs:Array Value) (o j:Nat),(j<o∨o+l.length≤j)→(zDg vs o l)[j]?=vs[j]?
  | [],_,_,_,_=>rfl
  | x :: l,vs,o,j,h=>by
    rw[List.length_cons]at h
    rw[zDg,putAt_out l _ (o+1) j (by omega),Array.getElem?_setIfInBounds,if_neg (by omega)]
theorem putAt_in:∀(l:List Value) (vs:Array Value) (o i:Nat) (v:Value),o+l.length≤vs.size→l[i]?=some v→(zDg vs o l)[o+i]?=some v
  | [],_,_,_,_,_,h=>by simp at h
  | x :: l,vs,o,0,v,hs,h=>by
    obtain rfl:x=v:=by simpa using h
    rw[List.length_cons]at hs
    show(zDg (vs.setIfInBounds o x) (o+1) l)[o]?=some x
    rw[putAt_out l _ (o+1) o (Or.inl (by omega))]
    have:o<vs.size:=by omega
    simp[this]
  | x :: l,vs,o,i+1,v,hs,h=>by
    rw[List.length_cons]at hs
    have:=putAt_in l (vs.setIfInBounds o x) (o+1) i v (by simp;omega) (by simpa using h)
    rw[zDg,show o+(i+1)=o+1+i by omega]
    exact this
def DoneA (left:Lit→Bool) (A:Array Value):Prop:=A.size=91∧∀k,k<13→left (.string (fNm k).data.toList)=false→∀i v,(cT k)[i]?=some v→A[k*7+i]?=some v
theorem DoneA.put {left:Lit→Bool} {A:Array Value} (h:DoneA left A) (k:Nat) (hk:k<13):DoneA (fun z=>left z && !z.sameKey (.string (fNm k).data.toList)) (zDg A (k*7) (cT k).toList):=by
  have hs:(cT k).toList.length=7:=by rw[Array.length_toList];exact cT_size k hk
  refine⟨by rw[size_putAt];exact h.1,fun j hj hl i v hv=>?_⟩
  by_cases e:j=k
  · subst e
    exact putAt_in _ _ _ _ _ (by rw[hs,h.1];omega) (by rw[Array.getElem?_toList];exact hv)
  · have hi:i<7:=by have:=(Array.getElem?_eq_some_iff.1 hv).1;rw[cT_size j hj]at this;exact this
    rw[putAt_out _ _ _ _ (by rw[hs];omega)]
    refine h.2 j hj ?_ i v hv
    simpa [fNm_other j hj k hk e] using hl
theorem ones_cT:∀k,k<13→(cT k).all (·.oneCell')=true:=by decide +kernel
theorem put_none (a:Act) (v:Value):a.put none v=a:=rfl
theorem keepC2 (K:Nat→Nat→Array Value→Prop) (k:Nat) (hk:k<13) (ct:Array Value) (hct:cT k=ct) (base r m:Nat) (vs:Value) (ps:List Nat) (w0 W:World) (h:RC W K base r m vs ps (usC k) (2*k) (DDc k)) (hl:ps.length=k) (hb:Below base w0 W) (hm:base≤m) (hr:base≤r) :
    Calls Tryz.prog 62 #[.pointer (some ⟨r,0,none⟩),.agg ct] W fun e w'=>e=.returned (.int .i64 0)∧(∃p v',RC w' K base r m v' (ps ++ [p]) (usC (k+1)) (2*(k+1)) (DDc (k+1)))∧Below base w0 w':=by
  rw[←hct]
  exact keepC K k hk base r m vs ps w0 W h hl hb hm hr
theorem row_mid {W:World} {gO k:Nat} {A:Array Value} (hA:zAc W gO 45 A) (hk:∀i v,(cT k)[i]?=some v→A[k*7+i]?=some v) (l:List Value) (hct:cT k=l.toArray):W.rangeAt gO (k*7) l:=fun i v e=>hA.ub.c (k*7+i) v (hk i v (by rw[hct];simpa using e))
theorem size_fcD:Maps.size (fcD 13)=13:=by kernel_rfl
theorem below_grownBy {W V:World} (hb:Below W.heap.size W V):W.grownBy V none:=⟨hb.os,hb.tape,hb.output,hb.size,fun k hk _=>hb.block k hk⟩
theorem zGk (g:Nat):∀(l:List Value) (W:World) (o:Nat),W.grownBy (W.setCells g o l) (some g)
  | [],W,_=>World.grownBy.refl W _
  | v :: l,W,o=>by
    have h1:W.grownBy (W.setCell ⟨g,o,none⟩ v) (some g):=⟨rfl,rfl,rfl,by simp,fun k _ hk=>Below.heap_setCell W ⟨g,o,none⟩ v k (fun e=>hk (by rw[e]))⟩
    exact h1.andThen (zGk g l _ (o+1)) (fun j hj=>Or.inr hj)
theorem zFv {W V:World} {b r n cnt:Nat} {D:DataW Unit} {left:Lit→Bool} (h:W.ranges Tryz.prog 9 fcR b r n D left cnt) (hb:Below W.heap.size W V):V.ranges Tryz.prog 9 fcR b r n D left cnt:=h.kept (below_grownBy hb) (by simp) (by simp)
theorem info45a:(Tryz.prog.info? 45).map (fun i=>(i.zero,i.size,i.bytes))=some (some (.agg zC),7,112):=by kernel_rfl
theorem under41a:Tryz.prog.underlying 41=some (.slice 45):=by kernel_rfl
theorem natAll (w:World) (hsp:Spc w) (htb:Tab w):Calls Tryz.prog 23 #[] w fun e w'=>∃v,e=.returned v∧w'.ownsRow w.heap.size 45 7 v 13 (zHq (usC 13) 13)∧Below w.heap.size w w':=by
  obtain⟨i0,hi,hz0,hz1,hz2⟩:=info_parts info45a
  have HI0:=zAb hi;have HZ0:=zAb hz0;have HZ1:=zAb hz1;have HZ2:=zAb hz2
  have HF:Hid (Calls Tryz.prog 60 #[] w fun r w'=>r=.returned (.map (some w.heap.size))∧w'.ownsMap Tryz.prog 9 fcR w.heap.size 13 (fcD 13)∧Below w.heap.size w w'):=facts_any w
  have HT:Hid (∀k,k<13→∀W,Below w.heap.size w W→Calls Tryz.prog 61 #[fcV k,.string (fNm k)] W fun r w'=>r=.returned (.agg (cT k))∧Below W.heap.size W w'):=fun k hk W hb=>told_at k hk W (hsp.later hb) (htb.later hb)
  clear hi hz0 hz1 hz2 hsp htb
  go_enter Tryz.func23,Tryz.ntmps23
  go_upto_region 2 with (go_at_call 60;go_must(refine(un HF).mono ?_;rintro e w1 ⟨rfl,hown,hb⟩;have HO:=zAb hown;have HB1:=zAb hb;clear hown hb))
  clear HF
  go_upto_region 3 with (first
    | (at_len;go_must(refine wpList_len_own _ rfl _ 99 rfl 9 103 zDm fcR w.heap.size 13 (fcD 13) rfl (un HO) ?_;rw[size_fcD]))
    | (at_make;go_must(refine wpList_make_full _ rfl _ _ 41 rfl w1.heap.size 45 i0 (.agg zC) 7 under41a (un HI0) (un HZ0) (un HZ1) .i64 .i64 _ _ 13 rfl rfl rfl rfl (by rw[un HZ2];decide) (by unfold maxLen;omega) (Nat.le_refl _) ?_;intro w2 hown2 hgrow2;have HO2:=zAb hown2;have HG2:=zAb hgrow2;clear hown2 hgrow2)))
  obtain⟨gO,hgO⟩:∃gO,gO=w1.heap.size:=⟨_,rfl⟩
  have hwO:w.heap.size<gO:=by rw[hgO];exact(un HO).lt
  obtain⟨cur,hcur,hcz⟩:∃cur,zAc w2 gO 45 cur∧cur.size=91:=by
    rcases(un HO2).2 with ⟨e,_⟩|⟨g,cap,cur,e,_,hg,_,_,hs,_⟩
    · cases e
    · simp only[Value.slice.injEq,Option.some.injEq,Addr.mk.injEq]at e
      obtain⟨⟨rfl,_⟩,_,rfl⟩:=e
      exact⟨cur,by rw[hgO];exact hg,hs⟩
  have HC2:=zAb hcur;have HCZ:=zAb hcz
  have HM2:Hid (w2.ownsMap Tryz.prog 9 fcR w.heap.size 13 (fcD 13)):=(un HO).kept (un HG2) (by simp)
  have HB2:Hid (Below w.heap.size w w2):=(un HB1).grown (un HG2) (un HB1).size (fun j hj=>by cases hj)
  have hOw:gO<w2.heap.size:=hcur.lt
  rw[←hgO]
  clear hgO hcur hcz HO HO2 HG2 HB1 HI0 HZ0 HZ1 HZ2
  go_upto_region 4 with (at_range;refine wpList_range_own _ rfl _ 99 rfl 9 103 (string_keyed Tryz.underlying9) zDm fcR w.heap.size 13 (fcD 13) rfl (un HM2) ?_;intro w3 hrg hgr hsz;go_frame)
  obtain⟨gI,hgI⟩:∃gI,gI=w2.heap.size:=⟨_,rfl⟩
  have HRG:Hid (w3.ranges Tryz.prog 9 fcR w.heap.size gI 13 (fcD 13) (Maps.has (fcD 13)) (Maps.size (fcD 13))):=by rw[hgI];exact hrg
  have HB3:Hid (Below w.heap.size w w3):=(un HB2).grown hgr (un HB2).size (fun j hj=>by cases hj)
  have HC3:Hid (zAc w3 gO 45 cur):=(hgr.block gO hOw (by simp)).trans (un HC2)
  have HNE:Hid (gI≠gO):=by show gI≠gO;omega
  have HNM:Hid (w.heap.size≠gO):=by show w.heap.size≠gO;omega
  have HBI:Hid (w.heap.size≤gI):=by show w.heap.size≤gI;omega
  have HBO:Hid (w.heap.size≤gO):=by show w.heap.size≤gO;omega
  rw[←hgI]
  clear hrg hgr hsz hgI hOw hwO HM2 HB2 HC2
  go_loopw [3] (fun _ wr=>∃(left:Lit→Bool) (cnt:Nat) (A:Array Value),Hid (wr.ranges Tryz.prog 9 fcR w.heap.size gI 13 (fcD 13) left cnt)∧Hid (∀kl,left kl=true→Maps.has (fcD 13) kl=true)∧Hid (DoneA left A)∧Hid (zAc wr gO 45 A)∧Hid (Below w.heap.size w wr)) (fun _ wr=>wr.rangeLeft w.heap.size gI)
  case atStart=>exact⟨_,_,cur,HRG,fun _ h=>h,⟨un HCZ,fun k hk h=>absurd h (by rw[(at_name k hk (.lit (.int .i64 0))).2];decide)⟩,HC3,HB3⟩
  case round=>
    clear HRG HC3 HB3 HCZ
    obtain⟨left,cnt,A,HG,HL,HD,HA,HB⟩:=hrel
    go_wp2_with (at_next;go_loud (refine wpList_next_ranges _ rfl _ rfl 9 (string_keyed Tryz.underlying9) fcR (fun x:ByteArray=>.string x) (fun v:Value=>v) (fun key kl h=>zFt Tryz.underlying9 h) (fun v y _=>⟨v,rfl⟩) w.heap.size gI 13 (fcD 13) left cnt rfl (un HG) ?_ ?_))
    · intro _ hl0
      have HAll:Hid (∀k,k<13→∀i v,(cT k)[i]?=some v→A[k*7+i]?=some v):=fun k hk=>(un HD).2 k hk (hl0 _)
      clear hl0 HL HG HD HT
      go_upto_region 8 with (go_at_call 32;go_must(refine(newC_any _).mono ?_;rintro e wn ⟨rfl,hr,hbn⟩;have HRN:=zAb hr;have HBN:=zAb hbn;clear hr hbn))
      obtain⟨r,hr⟩:∃r,r=wr.heap.size+1:=⟨_,rfl⟩
      obtain⟨bs,hbs⟩:∃bs,bs=wr.heap.size:=⟨_,rfl⟩
      have HAN:Hid (zAc wn gO 45 A):=(un HA).later (un HBN)
      rw[←hr,←hbs]at HRN
      have HBN:Hid (Below bs wr wn):=by rw[hbs];exact HBN
      have HR0:Hid (RC wn (fun b ty us=>b=gO∧ty=45∧us=A) bs r bs (.slice none 0 0) [] [] 0 (.map [])):=RC.withK (un HRN) (by
        rintro g ty us ⟨rfl,rfl,rfl⟩
        exact⟨by decide,by decide,un HAN⟩)
      have HBR:Hid (bs≤r):=by show bs≤r;omega
      have HBB:Hid (w.heap.size≤bs):=by rw[hbs];exact(un HB).size
      have HBX:Hid (∀W,Below bs wr W→Below w.heap.size w W):=fun W h=>(un HB).trans (h.mono (un HBB))
      rw[←hr]
      clear hr hbs HAN HRN HB HA
      obtain⟨wp,hwp⟩:∃wp,wp=wr:=⟨_,rfl⟩
      subst hwp
      go_wp2_with fail
      go_loopw [29] (fun s29 wq=>∃(k:Nat) (ps:List Nat) (vs:Value),k≤13∧s29=.int .i64 (k:Int)∧Hid (ps.length=k)∧Hid (RC wq (fun b ty us=>b=gO∧ty=45∧us=A) bs r bs vs ps (usC k) (2*k) (DDc k))∧Hid (Below bs wp wq)) (fun s29 _=>13 - (intOf s29).toNat)
      case atStart=>exact⟨0,[],_,by omega,rfl,rfl,HR0,HBN⟩
      case round=>
        clear HR0 HBN
        obtain⟨k,ps,vs,hk,rfl,HPL,HR,HBQ⟩:=hrel
        by_cases hlt:k<13
        · have hkI:(k:Int)<13:=by omega
          have hk0:(0:Int)≤(k:Int):=by omega
          obtain⟨a0,a1,a2,a3,a4,a5,a6,hct⟩:=zDs k hlt
          have HKP:Hid (∀W,RC W (fun b ty us=>b=gO∧ty=45∧us=A) bs r bs vs ps (usC k) (2*k) (DDc k)→Below bs wp W→Calls Tryz.prog 62 #[.pointer (some ⟨r,0,none⟩),.agg #[.string a0,.string a1,.string a2,.string a3,.string a4,.string a5,.string a6]] W fun e w'=>e=.returned (.int .i64 0)∧(∃p v',RC w' (fun b ty us=>b=gO∧ty=45∧us=A) bs r bs v' (ps ++ [p]) (usC (k+1)) (2*(k+1)) (DDc (k+1)))∧Below bs wp w'):=fun W h1 h2=>keepC2 _ k hlt _ hct bs r bs vs ps wp W h1 (un HPL) h2 (Nat.le_refl _) (un HBR)
          have HMD:Hid (wr.rangeAt gO (k*7) [.string a0,.string a1,.string a2,.string a3,.string a4,.string a5,.string a6]):=row_mid ((un HR).ex gO 45 A ⟨rfl,rfl,rfl⟩).2.2 (un HAll k hlt) _ hct
          clear hct
          go_upto_region 11 with (first
            | (refine wpList_load_mid rfl 45 (.tmp 31) rfl gO (k*7) rfl [.string a0,.string a1,.string a2,.string a3,.string a4,.string a5,.string a6] _ (un HMD) Tryz.underlying45 rfl zHn ?_)
            | (refine zAn 45 7 zHn rfl (.tmp 7) (.tmp 32) rfl wr.heap.size zC #[.string a0,.string a1,.string a2,.string a3,.string a4,.string a5,.string a6] rfl rfl rfl rfl (zAc.new _ _ _) (by kernel_rfl) ?_))
          have hb2:Below wr.heap.size wr ((wr.alloc (.cells zC 45)).setRow wr.heap.size #[.string a0,.string a1,.string a2,.string a3,.string a4,.string a5,.string a6]):=below_setRow ((Below.refl _ _).alloc (Nat.le_refl _) _) (Nat.le_refl _) _
          have HX:Hid (zAc ((wr.alloc (.cells zC 45)).setRow wr.heap.size #[.string a0,.string a1,.string a2,.string a3,.string a4,.string a5,.string a6]) wr.heap.size 45 #[.string a0,.string a1,.string a2,.string a3,.string a4,.string a5,.string a6]):=(zAc.new _ _ _).setRow _
          have HR3:=zAb ((un HR).later hb2)
          have HB3:Hid (Below bs wp _):=(un HBQ).trans (hb2.mono (un HR).bs)
          clear hb2 HR HBQ
          generalize (wr.alloc (.cells zC 45)).setRow wr.heap.size #[.string a0,.string a1,.string a2,.string a3,.string a4,.string a5,.string a6]=w5 at *
          generalize wr.heap.size=g7 at *
          have d0:w5.cell? ⟨g7,0,none⟩=some (.string a0):=(un HX).ub.c 0 _ rfl
          have d1:w5.cell? ⟨g7,1,none⟩=some (.string a1):=(un HX).ub.c 1 _ rfl
          have d2:w5.cell? ⟨g7,2,none⟩=some (.string a2):=(un HX).ub.c 2 _ rfl
          have d3:w5.cell? ⟨g7,3,none⟩=some (.string a3):=(un HX).ub.c 3 _ rfl
          have d4:w5.cell? ⟨g7,4,none⟩=some (.string a4):=(un HX).ub.c 4 _ rfl
          have d5:w5.cell? ⟨g7,5,none⟩=some (.string a5):=(un HX).ub.c 5 _ rfl
          have d6:w5.cell? ⟨g7,6,none⟩=some (.string a6):=(un HX).ub.c 6 _ rfl
          go_wp2_with (go_at_call 62;go_must(refine(un HKP _ (un HR3) (un HB3)).mono ?_;rintro e wu ⟨rfl,⟨p,v',hr5⟩,hb5⟩;have HR5:=zAb hr5;have HB5:=zAb hb5;clear hr5 hb5))
          go_roundw
          case rel=>exact⟨k+1,ps ++ [p],v',by omega,by go_num,(by have h:=un HPL;show(ps ++ [p]).length=k+1;rw[List.length_append,h];rfl),HR5,HB5⟩
          case measure=>simp[intOf];omega
        · have hkI:¬(k:Int)<13:=by omega
          have HK:Hid (k=13):=by show k=13;omega
          have HUN:Hid (Calls Tryz.prog 63 #[.pointer (some ⟨r,0,none⟩)] wr fun e w'=>∃v,e=.returned v∧w'.ownsRow wr.heap.size 45 7 v 13 (zHq (usC 13) 13)∧Below wr.heap.size wr w'):=by
            have h:=un HR
            have hl:=un HPL
            rw[un HK]at h hl
            have hh:=consts_any _ _ _ _ _ _ _ _ wr h (by rw[usC_len,hl]) (by omega) (by omega) (usC_is 13)
            rw[hl]at hh
            exact hh
          have HBW:=zAb (un HBX _ (un HBQ))
          go_wp2_with (go_at_call 63;go_must(refine(un HUN).mono ?_;rintro e wt ⟨v,rfl,ho,hbt⟩;have HO:=zAb ho;have HB4:Hid (Below w.heap.size w wt):=(un HBW).trans (hbt.mono (un HBW).size);clear hbt ho))
          go_ret
          exact⟨v,rfl,(un HO).mono (un HBW).size,un HB4⟩
    · intro x v kl d ps w4 cnt4 hkx hlx hv hat hrg4 hlt hg4 hs4 hen
      obtain⟨k,hk,rfl⟩:=has_only kl 13 ((un HL) kl hlx)
      obtain rfl:x=fNm k:=key_inv hkx
      obtain rfl:d=.lit (.int .i64 (k:Int)):=by have h:=hat (.lit (.int .i64 0));rw[(at_name k hk _).1]at h;exact h.symm
      obtain rfl:v=fcV k:=by have h:=(fcR_inv hv (by omega)).2;rw[h];rfl
      have HB4:Hid (Below w.heap.size w w4):=(un HB).grown hg4 (un HB).size (fun j hj=>by cases hj;exact un HBI)
      have HA4:Hid (zAc w4 gO 45 A):=(hg4.block _ (un HA).lt (by have:=un HNE;simp;omega)).trans (un HA)
      have HG4:=zAb hrg4
      have HCK:Hid (cnt=wr.rangeLeft w.heap.size gI):=(un HG).left_eq.symm
      have HLT:Hid (cnt4<cnt):=hlt
      have HTK:=zAb (un HT k hk)
      have HDP:=zAb ((un HD).put k hk)
      have HL2:Hid (∀kl,(left kl && !kl.sameKey (.string (fNm k).data.toList))=true→Maps.has (fcD 13) kl=true):=fun z h=>un HL z (by simp at h;exact h.1)
      have HSZ:Hid (k*7+(cT k).size≤A.size):=by show _≤_;rw[(un HD).1,cT_size k hk];omega
      have HIN:Hid ((Tryz.prog.info? 45).map (·.size)=some (cT k).size):=by show _=_;rw[zHn,cT_size k hk]
      have HON:=zAb (ones_cT k hk)
      have hkI:(k:Int)<13:=by omega
      have hk0:(0:Int)≤(k:Int):=by omega
      clear hrg4 hlt hkx hlx hv hat hg4 hs4 HL HG HD HB HA
      unfold fcV at hen HTK
      generalize cT k=ct at *
      generalize fSy k=sy at *
      generalize fUs k=us at *
      generalize fFn k=f at *
      generalize fNm k=nm at *
      go_upto_region 6 with fail
      have hb2:Below w4.heap.size w4 (w4.alloc (.cells #[.int .i64 (k:Int),.string sy,.string us,.func (.func f) #[] #[]] 103)):=(Below.refl _ _).alloc (Nat.le_refl _) _
      have HX:Hid (zAc (w4.alloc (.cells #[.int .i64 (k:Int),.string sy,.string us,.func (.func f) #[] #[]] 103)) w4.heap.size 103 #[.int .i64 (k:Int),.string sy,.string us,.func (.func f) #[] #[]]):=zAc.new _ _ _
      have HG5:=zAb (zFv (un HG4) hb2)
      have HA5:=zAb ((un HA4).later hb2)
      have HB5:=zAb ((un HB4).trans (hb2.mono (un HB4).size))
      clear hb2 HG4 HA4 HB4
      generalize w4.alloc (.cells #[.int .i64 (k:Int),.string sy,.string us,.func (.func f) #[] #[]] 103)=w5 at *
      generalize w4.heap.size=g8 at *
      have HSS:Hid (∀W',zAc W' g8 103 #[.int .i64 (k:Int),.string sy,.string us,.func (.func f) #[] #[]]→W'.cell? ⟨g8,0,none⟩=some (.int .i64 (k:Int))∧W'.cell? ⟨g8,1,none⟩=some (.string sy)∧W'.cell? ⟨g8,2,none⟩=some (.string us)∧W'.cell? ⟨g8,3,none⟩=some (.func (.func f) #[] #[])):=fun W' h=>⟨h.ub.c 0 _ rfl,h.ub.c 1 _ rfl,h.ub.c 2 _ rfl,h.ub.c 3 _ rfl⟩
      have hbd:Below w5.heap.size w5 w5.drew:=(Below.refl _ _).drew
      have HX6:=zAb ((un HX).later hbd);have HG6:=zAb (zFv (un HG5) hbd);have HA6:=zAb ((un HA5).later hbd);have HB6:=zAb ((un HB5).trans (hbd.mono (un HB5).size))
      have HS0:=zAb (un HSS _ (un HX6))
      clear hbd HX HG5 HA5 HB5 hen
      refine zAi 7 (fun W'=>W'.cell? ⟨g8,0,none⟩=some (.int .i64 (k:Int))∧W'.cell? ⟨g8,1,none⟩=some (.string sy)∧W'.cell? ⟨g8,2,none⟩=some (.string us)∧W'.cell? ⟨g8,3,none⟩=some (.func (.func f) #[] #[])) (fun _=>True) 8 rfl (by kernel_rfl) ?_
      refine zAd (i:=0) (oi:=_) (v:=.slice (some ⟨gO,0,none⟩) 13 13) rfl (by kernel_rfl) (by kernel_rfl) (by kernel_rfl) (by kernel_rfl) (fun _ _ _ h=>h) (Or.inl ⟨by rfl,?_⟩) ⟨un HS0,trivial⟩ ?_
      · intro W' hW
        go_split_ands
        go_simp
      refine zAd (i:=1) (oi:=_) (v:=.pointer (some ⟨g8,0,none⟩)) rfl (by kernel_rfl) (by kernel_rfl) (by kernel_rfl) (by kernel_rfl) (fun _ _ _ h=>h) (Or.inl ⟨by rfl,?_⟩) ⟨un HS0,trivial⟩ ?_
      · intro W' hW
        go_split_ands
        go_simp
      refine zAd (i:=2) (oi:=_) (v:=.int .i64 (k:Int)) rfl (by kernel_rfl) (by kernel_rfl) (by kernel_rfl) (by kernel_rfl) (fun _ _ _ h=>h) (Or.inl ⟨by rfl,?_⟩) ⟨un HS0,trivial⟩ ?_
      · intro W' hW
        go_split_ands
        go_simp
      refine zAd (i:=3) (oi:=_) (v:=.agg #[.int .i64 (k:Int),.string sy,.string us,.func (.func f) #[] #[]]) rfl (by kernel_rfl) (by kernel_rfl) (by kernel_rfl) (by kernel_rfl) (fun _ _ _ h=>h) (Or.inl ⟨by rfl,?_⟩) ⟨un HS0,trivial⟩ ?_
      · intro W' hW
        go_split_ands
        go_simp
      refine zAd (i:=4) (oi:=_) (v:=.string nm) rfl (by kernel_rfl) (by kernel_rfl) (by kernel_rfl) (by kernel_rfl) (fun _ _ _ h=>h) (Or.inl ⟨by rfl,?_⟩) ⟨un HS0,trivial⟩ ?_
      · intro W' hW
        go_split_ands
        go_simp
      clear HS0
      generalize w5.drew=w6 at *
      refine zAg (i:=5) (o:=_) (by kernel_rfl) rfl rfl (fun K hK=>?_)
      go_simp
      refine(un HTK _ (un HB6)).mono ?_
      rintro e w7 ⟨rfl,hb⟩
      have HX7:=zAb ((un HX6).later hb);have HG7:=zAb (zFv (un HG6) hb);have HA7:=zAb ((un HA6).later hb);have HB7:=zAb ((un HB6).trans (hb.mono (un HB6).size))
      clear hb HX6 HG6 HA6 HB6
      refine hK _ _ ⟨un HSS _ (un HX7),trivial⟩ ?_
      clear hK K
      refine zAg (i:=6) (o:=_) (by kernel_rfl) rfl rfl (fun K hK=>?_)
      go_simp
      refine hK _ _ ⟨un HSS _ (un HX7),trivial⟩ ?_
      clear hK K
      refine zAj (i:=7) (o:=_) (by kernel_rfl) rfl rfl (by kernel_rfl) (fun K hK=>?_)
      show Oper.wp _ ⟨none,.store 45 (.tmp 25) (.tmp 24),0,"consts.go:64",_,none⟩ _ _ _ _
      refine wp_store_mid 45 (.tmp 25) (.tmp 24) rfl gO (k*7) ct rfl rfl ((un HA7).there (k*7) ct.size (un HSZ)) (un HIN) (un HON) (hK _ _ trivial ?_)
      clear hK K
      have HG8:=zAb ((un HG7).kept (zGk gO ct.toList w7 (k*7)) (by have:=un HNM;simp;omega) (by have:=un HNE;simp;omega))
      have HA8:=zAb (zAc.setCells ct.toList A w7 (k*7) (un HA7))
      have HB8:=zAb (zCb (un HBO) ct.toList w7 (k*7) (un HB7))
      refine zAm (by kernel_rfl) ?_
      rw[put_none]
      go_wp2_with fail
      go_roundw
      case rel=>exact⟨_,_,_,HG8,HL2,HDP,HA8,HB8⟩
      case measure=>rw[←un HCK,(un HG8).left_eq];exact un HLT
end Go.Proofs.YtliadckofhblnaaGreatDoor.Nt
namespace Go.Proofs.YtliadckofhblnaaGreatDoor
open Go.RowKit
section
variable (nm sy:ByteArray) (d0 d1 d2 d3 d4 d5 d6 d7:Int) (fn fd on od:ByteArray) (tk:Int)
theorem fieldsQ:∃f0 f1,(Tryz.prog.fieldsOf 28).toList=[f0,f1]∧f0.type=9∧f0.offset=0∧f0.name≠"_"∧f1.type=9∧f1.offset=1∧f1.name≠"_":=by
 unfold Program.fieldsOf;rw[Tryz.underlying28];exact⟨_,_,rfl,rfl,rfl,by decide +kernel,rfl,rfl,by decide +kernel⟩
theorem eqQ (d:Nat) (w:World):(Op.equalIn (d+2) 28 (.agg #[.string fn,.string fd]) (.agg #[.string fn,.string fd])).run Tryz.prog w=.ok true w:=by
 rw[show d+2=(d+1)+1 from rfl,run_equalIn_struct w (d+1) 28 _ _ (by kernel_rfl) (by kernel_rfl)];obtain⟨f0,f1,hf,t0,o0,n0,t1,o1,n1⟩:=fieldsQ;rw[hf];have p0:∀w:World,(part 9 #[.string fn,.string fd] 0).run Tryz.prog w=.ok (.string fn) w:=fun _=>by kernel_rfl
 have p1:∀w:World,(part 9 #[.string fn,.string fd] 1).run Tryz.prog w=.ok (.string fd) w:=fun _=>by kernel_rfl
 have e:=fun w a b=>run_equalIn_string (P:=Tryz.prog) w d 9 a b Tryz.underlying9
 simp only[Op.eqFields,n0,n1,t0,t1,o0,o1,Sem.run_bind,p0,p1,Result.andThen_ok,e,Sem.run_ite,Sem.run_pure,ne_eq,not_false_eq_true,if_true];simp
end
end Go.Proofs.YtliadckofhblnaaGreatDoor
namespace Go.Proofs.YtliadckofhblnaaGreatDoor.Nt
open Go.RowKit
theorem fieldsC:∃f0 f1 f2 f3 f4,(Tryz.prog.fieldsOf 45).toList=[f0,f1,f2,f3,f4]∧(f0.type=9∧f0.offset=0∧f0.name≠"_")∧(f1.type=9∧f1.offset=1∧f1.name≠"_")∧(f2.type=28∧f2.offset=2∧f2.name≠"_")∧(f3.type=28∧f3.offset=4∧f3.name≠"_")∧(f4.type=9∧f4.offset=6∧f4.name≠"_"):=by
 unfold Program.fieldsOf;rw[Tryz.underlying45];exact⟨_,_,_,_,_,rfl,⟨rfl,rfl,by decide +kernel⟩,⟨rfl,rfl,by decide +kernel⟩,⟨rfl,rfl,by decide +kernel⟩,⟨rfl,rfl,by decide +kernel⟩,⟨rfl,rfl,by decide +kernel⟩⟩
section
variable (a0 a1 a2 a3 a4 a5 a6:ByteArray)
theorem eqC (w:World):(Op.equalIn 10000 45 (.agg #[.string a0,.string a1,.string a2,.string a3,.string a4,.string a5,.string a6]) (.agg #[.string a0,.string a1,.string a2,.string a3,.string a4,.string a5,.string a6])).run Tryz.prog w=.ok true w:=by
 rw[show(10000:Nat)=9999+1 from rfl,run_equalIn_struct w 9999 45 _ _ (by kernel_rfl) (by kernel_rfl)];obtain⟨f0,f1,f2,f3,f4,hf,⟨t0,o0,n0⟩,⟨t1,o1,n1⟩,⟨t2,o2,n2⟩,⟨t3,o3,n3⟩,⟨t4,o4,n4⟩⟩:=fieldsC;rw[hf];have p0:∀w:World,(part 9 #[.string a0,.string a1,.string a2,.string a3,.string a4,.string a5,.string a6] 0).run Tryz.prog w=.ok (.string a0) w:=fun _=>by kernel_rfl
 have p1:∀w:World,(part 9 #[.string a0,.string a1,.string a2,.string a3,.string a4,.string a5,.string a6] 1).run Tryz.prog w=.ok (.string a1) w:=fun _=>by kernel_rfl
 have p2:∀w:World,(part 28 #[.string a0,.string a1,.string a2,.string a3,.string a4,.string a5,.string a6] 2).run Tryz.prog w=.ok (.agg #[.string a2,.string a3]) w:=fun _=>by kernel_rfl
 have p3:∀w:World,(part 28 #[.string a0,.string a1,.string a2,.string a3,.string a4,.string a5,.string a6] 4).run Tryz.prog w=.ok (.agg #[.string a4,.string a5]) w:=fun _=>by kernel_rfl
 have p4:∀w:World,(part 9 #[.string a0,.string a1,.string a2,.string a3,.string a4,.string a5,.string a6] 6).run Tryz.prog w=.ok (.string a6) w:=fun _=>by kernel_rfl
 have e:=fun w a b=>run_equalIn_string (P:=Tryz.prog) w 9998 9 a b Tryz.underlying9
 have eq1:=eqQ a2 a3 9997;have eq2:=eqQ a4 a5 9997;simp only[Op.eqFields,n0,n1,n2,n3,n4,t0,t1,t2,t3,t4,o0,o1,o2,o3,o4,Sem.run_bind,p0,p1,p2,p3,p4,Result.andThen_ok,e,eq1,eq2,Sem.run_ite,Sem.run_pure,ne_eq,not_false_eq_true,if_true];simp
end
theorem flat_all:zHq (usC 13) 13=cAll.toList:=by kernel_rfl
theorem flat_at {W:World} {base g cap:Nat} (h:W.ownsRow base 45 7 (.slice (some ⟨g,0,none⟩) 13 cap) 13 (zHq (usC 13) 13)) (k:Nat) (hk:k<13):CR W g k:=fun i v e=>by
 have hi:i<7:=by have:=(Array.getElem?_eq_some_iff.1 e).1;rw[cT_size k hk]at this;exact this
 rw[h.cellAt (k*7+i) (by omega),flat_all]
 simpa using cAll_row k hk i v e
theorem drewN_b {B:Nat} {a w:World} (h:Below B a w) (q:Nat):Below B a (w.drewN q):=⟨h.os,h.tape,h.output,h.size,h.block⟩
theorem neqC (x0 x1 x2 x3 x4 x5 x6:ByteArray) (w:World):(binOp .neq 45 (.agg #[.string x0,.string x1,.string x2,.string x3,.string x4,.string x5,.string x6]) (.agg #[.string x0,.string x1,.string x2,.string x3,.string x4,.string x5,.string x6])).run Tryz.prog w=.ok (.bool false) w:=by
 rw[run_neq_struct,eqC]
 rfl
theorem zHd (w:World) (g1 c1 g2 c2:Nat) (hg1:g1<w.heap.size) (hg2:g2<w.heap.size) (h1:∀k,k<13→CR w g1 k) (h2:∀k,k<13→CR w g2 k) :
  Calls Tryz.prog 24 #[.slice (some ⟨g1,0,none⟩) 13 c1,.slice (some ⟨g2,0,none⟩) 13 c2] w fun r w'=>r=.returned (.bool true)∧Bw w w':=by
 have H1:=zAb h1;have H2:=zAb h2;clear h1 h2;go_enter Tryz.func24,Tryz.ntmps24
 go_wp2_with fail
 go_loopw [5] (fun s3 wr=>∃(k:Nat),k≤13∧s3=I (k:Int)∧Hid (Bw w wr)) (fun s3 _=>13 - (intOf s3).toNat)
 case atStart=>exact⟨0,by omega,rfl,Below.refl _ _⟩
 case round=>
  obtain⟨k,hk,rfl,HB⟩:=hrel
  by_cases hk8:k<13
  ·have hkI:(k:Int)<13:=by omega
   have hk0:(0:Int)≤(k:Int):=by omega
   obtain⟨x0,x1,x2,x3,x4,x5,x6,hct⟩:=zDs k hk8;have F1:=(un H1 k hk8).later (un HB) hg1;have F2:=(un H2 k hk8).later (un HB) hg2;unfold CR at F1 F2
   rw[hct]at F1 F2;clear hct;have a0:wr.cell? ⟨g1,k*7,none⟩=some (.string x0):=F1 0 _ rfl;have a1:wr.cell? ⟨g1,k*7+1,none⟩=some (.string x1):=F1 1 _ rfl;have a2:wr.cell? ⟨g1,k*7+2,none⟩=some (.string x2):=F1 2 _ rfl;have a3:wr.cell? ⟨g1,k*7+3,none⟩=some (.string x3):=F1 3 _ rfl;have a4:wr.cell? ⟨g1,k*7+4,none⟩=some (.string x4):=F1 4 _ rfl;have a5:wr.cell? ⟨g1,k*7+5,none⟩=some (.string x5):=F1 5 _ rfl;have a6:wr.cell? ⟨g1,k*7+6,none⟩=some (.string x6):=F1 6 _ rfl;have b0:wr.cell? ⟨g2,k*7,none⟩=some (.string x0):=F2 0 _ rfl;have b1:wr.cell? ⟨g2,k*7+1,none⟩=some (.string x1):=F2 1 _ rfl;have b2:wr.cell? ⟨g2,k*7+2,none⟩=some (.string x2):=F2 2 _ rfl;have b3:wr.cell? ⟨g2,k*7+3,none⟩=some (.string x3):=F2 3 _ rfl;have b4:wr.cell? ⟨g2,k*7+4,none⟩=some (.string x4):=F2 4 _ rfl;have b5:wr.cell? ⟨g2,k*7+5,none⟩=some (.string x5):=F2 5 _ rfl;have b6:wr.cell? ⟨g2,k*7+6,none⟩=some (.string x6):=F2 6 _ rfl;clear F1 F2;have hne:=neqC x0 x1 x2 x3 x4 x5 x6
   go_wp2_with fail
   go_quiet (fail)
   go_wp2_with fail
   go_roundw
   case rel=>exact⟨k+1,by omega,by go_num,drewN_b (un HB) _⟩
   case measure=>simp[intOf];omega
  ·have hkI:¬(k:Int)<13:=by omega
   go_wp2_with fail
   go_ret
   exact⟨rfl,un HB⟩
theorem first_of {W:World} {g k:Nat} (h:CR W g k) (hk:k<13):∃u,W.cell? ⟨g,k*7,none⟩=some u:=by
 obtain⟨x0,x1,x2,x3,x4,x5,x6,hct⟩:=zDs k hk;exact⟨_,h 0 (.string x0) (by rw[hct];rfl)⟩
theorem own_consts {W:World} {base:Nat} {v:Value} (h:W.ownsRow base 45 7 v 13 (zHq (usC 13) 13)):∃g cap,v=.slice (some ⟨g,0,none⟩) 13 cap∧base≤g∧g<W.heap.size∧(∀k,k<13→CR W g k)∧(∀o,W.frozen? ⟨g,o,none⟩=false):=by
 obtain⟨g,cap,rfl⟩:=Joins.ownsRow_form h (by decide);have hl:=h.lt g rfl;refine⟨g,cap,rfl,hl.1,hl.2,fun k hk=>flat_at h k hk,?_⟩;intro o;obtain⟨_,h2⟩:=h;rcases h2 with ⟨h2,_⟩|⟨g',cap',cur,e,_,hg,_⟩
 ·cases h2
 ·cases e
  simp[World.frozen?,hg]
structure zDj (W:World) (g:Nat):Prop where
 c:∀k,k<13→∃u,W.cell? ⟨g,k*7,none⟩=some u
 f:∀o,W.frozen? ⟨g,o,none⟩=false
theorem zDj.set {W:World} {g:Nat} (h:zDj W g) (k:Nat) (hk:k<13) (u:Value):zDj (W.setCell ⟨g,k*7,none⟩ u) g:=by
 refine⟨fun j hj=>?_,fun o=>by rw[World.frozen?_setCell];exact h.f o⟩
 by_cases e:j=k
 ·subst e
  obtain⟨x,hx⟩:=h.c j hj;exact⟨u,World.cell?_setCell_same _ _ _ hx⟩
 ·obtain⟨x,hx⟩:=h.c j hj
  exact⟨x,by rw[World.cell?_setCell_other _ _ _ _ (by intro e2;simp only[Addr.mk.injEq]at e2;omega)];exact hx⟩
theorem zDj.later {W V:World} {g:Nat} (h:zDj W g) (hg:g<W.heap.size) (hb:Below W.heap.size W V):zDj V g :=
 ⟨fun k hk=>by obtain⟨u,hu⟩:=h.c k hk;exact⟨u,(hb.cell (p:=⟨g,k*7,none⟩) hg).trans hu⟩,fun o=>(hb.frozen (p:=⟨g,o,none⟩) hg).trans (h.f o)⟩
theorem stands_any (w:World) (hsp:Spc w) (htab:Tab w):Calls Tryz.prog 8 #[] w fun r w'=>r=.returned (.bool true)∧Bw w w':=by
 have HTW:=zAb htab;have HSW:=zAb hsp;clear htab hsp;go_enter Tryz.func8,Tryz.ntmps8
 go_wp2_with (first
  | (go_at_call 23;go_must(refine(natAll _ (un HSW) (un HTW)).mono ?_;rintro e wa ⟨va,rfl,hoa,hba⟩;obtain⟨gwa,cwa,rfl,hga0,hga1,hfa,hza⟩:=own_consts hoa;have HBA:=zAb hba;have HFA:=zAb hfa;have HZA:=zAb hza;have HGA:=zAb (And.intro hga0 hga1);clear hba hfa hza hga0 hga1 hoa))
  | (go_at_call 25;go_must(refine(refAll _).mono ?_;rintro e wb ⟨wz,rfl,hob,hbz⟩;have HBB:Hid (Bw wa wb):=(by rw[hob];exact hbz.alloc hbz.size _);have HFB:Hid (∀k,k<13→CR wb wz.heap.size k):=(fun k hk=>by rw[hob];exact cAll_at wz k hk);have HGB:Hid (wz.heap.size<wb.heap.size):=(by show _<_;rw[hob];simp);clear hob hbz;generalize wz.heap.size=gwb at *))
  | (go_at_call 24;go_must(refine(zHd _ gwa cwa gwb 13 (Nat.lt_of_lt_of_le (un HGA).2 (un HBB).size) (un HGB) (fun k hk=>(un HFA k hk).later (un HBB) (un HGA).2) (un HFB)).mono ?_;rintro e wc ⟨rfl,hbc⟩;have HBC:=zAb hbc;clear hbc)))
 have HW:Hid (Bw wa wc):=(un HBB).trans ((un HBC).mono (un HBB).size);have HWC:Hid (Bw w wc):=(un HBA).trans ((un HW).mono (un HBA).size);have HS:Hid (zDj wc gwa):=(zDj.mk (fun k hk=>first_of (un HFA k hk) hk) (un HZA)).later (un HGA).2 (un HW);have HGG:Hid (w.heap.size≤gwa):=(un HGA).1;clear HFA HFB HGB HBB HBC HZA HGA HBA HW
 go_loopw [2] (fun s2 wr=>∃(k:Nat),k≤13∧s2=I (k:Int)∧Hid (zDj wr gwa)∧Hid (Bw w wr)) (fun s2 _=>13 - (intOf s2).toNat)
 case atStart=>exact⟨0,by omega,rfl,HS,HWC⟩
 case round=>
  obtain⟨k,hk,rfl,HSP,HB⟩:=hrel
  by_cases hk8:k<13
  ·have hkI:(k:Int)<13:=by omega
   have hk0:(0:Int)≤(k:Int):=by omega
   obtain⟨u,hu⟩:=(un HSP).c k hk8;have hf:=(un HSP).f (k*7)
   go_wp2_with fail
   go_roundw
   case rel=>exact⟨k+1,by omega,by go_num,(un HSP).set k hk8 _,(un HB).setCell (p:=⟨gwa,k*7,none⟩) (un HGG) _⟩
   case measure=>simp[intOf];omega
  ·have hkI:¬(k:Int)<13:=by omega
   go_wp2_with (first
  | (go_at_call 23;go_must(refine(natAll _ ((un HSW).later (un HB)) ((un HTW).later (un HB))).mono ?_;rintro e wd ⟨va,rfl,hoa,hba⟩;obtain⟨gwd,cwd,rfl,hga0,hga1,hfa,hza⟩:=own_consts hoa;have HBA:=zAb hba;have HFA:=zAb hfa;have HZA:=zAb hza;have HGA:=zAb (And.intro hga0 hga1);clear hba hfa hza hga0 hga1 hoa))
  | (go_at_call 25;go_must(refine(refAll _).mono ?_;rintro e we ⟨wz,rfl,hob,hbz⟩;have HBB:Hid (Bw wd we):=(by rw[hob];exact hbz.alloc hbz.size _);have HFB:Hid (∀k,k<13→CR we wz.heap.size k):=(fun k hk=>by rw[hob];exact cAll_at wz k hk);have HGB:Hid (wz.heap.size<we.heap.size):=(by show _<_;rw[hob];simp);clear hob hbz;generalize wz.heap.size=gwe at *))
  | (go_at_call 24;go_must(refine(zHd _ gwd cwd gwe 13 (Nat.lt_of_lt_of_le (un HGA).2 (un HBB).size) (un HGB) (fun k hk=>(un HFA k hk).later (un HBB) (un HGA).2) (un HFB)).mono ?_;rintro e wf ⟨rfl,hbc⟩;have HBC:=zAb hbc;clear hbc)))
   go_ret
   have h1:Below wr.heap.size wr wf:=(un HBA).trans (((un HBB).trans ((un HBC).mono (un HBB).size)).mono (un HBA).size);exact⟨rfl,bt HB h1⟩
end Go.Proofs.YtliadckofhblnaaGreatDoor.Nt

/- The classes of runes: names.folded, isLetter, lowered, isRaised, isSign, Class; the document's own fold and Class. -/
import Derived.Test.YtliadckofhblnaaGreatDoorLimb3
import Derived.Test.YtliadckofhblnaaGreatDoorNt14
import Derived.Maps.RangeWalk
import Derived.Great.BuildSlice
import Derived.Test.YtliadckofhblnaaGreatDoorReads2
import Derived.Test.YtliadckofhblnaaGreatDoorProg
import Derived.WalkKit
import Derived.WalkSpells
import Derived.WalkLawsBesides
import Derived.Handy
import Derived.WalkSmall
import Derived.Deep.Cut
set_option maxHeartbeats 8000000
set_option maxRecDepth 100000
namespace Go.Proofs.YtliadckofhblnaaGreatDoor.Nt
open Go.RowKit Go.Maps Go.ChangeMaps Go.WideMaps
theorem res45b {fn:Func} {p u:Tmp} (h:fn.results=#[.cell p 45,.tmp u]) (tmps:Array Value) (w:World) (g:Nat) (vs:Array Value) (hl:vs.size=7) (hp:tmps.getD p undef=.pointer (some ⟨g,0,none⟩)) (ho:zAc w g 45 vs) :
  (results fn tmps).run Tryz.prog w=.ok (.tuple #[.agg vs,tmps.getD u undef]) w:=by
 rw[results_cell_tmp h,hp]
 simp only[asAddr,Sem.run_pure,Result.andThen_ok]
 rw[run_loadVar_row w g 45 45 vs (0,0) _ ho Tryz.underlying45 rfl (by rw[zHn,hl])]
 rfl
theorem zDs:∀k,k<13→∃a0 a1 a2 a3 a4 a5 a6,cT k=#[.string a0,.string a1,.string a2,.string a3,.string a4,.string a5,.string a6]
 | 0,_=>⟨_,_,_,_,_,_,_,rfl⟩
 | 1,_=>⟨_,_,_,_,_,_,_,rfl⟩
 | 2,_=>⟨_,_,_,_,_,_,_,rfl⟩
 | 3,_=>⟨_,_,_,_,_,_,_,rfl⟩
 | 4,_=>⟨_,_,_,_,_,_,_,rfl⟩
 | 5,_=>⟨_,_,_,_,_,_,_,rfl⟩
 | 6,_=>⟨_,_,_,_,_,_,_,rfl⟩
 | 7,_=>⟨_,_,_,_,_,_,_,rfl⟩
 | 8,_=>⟨_,_,_,_,_,_,_,rfl⟩
 | 9,_=>⟨_,_,_,_,_,_,_,rfl⟩
 | 10,_=>⟨_,_,_,_,_,_,_,rfl⟩
 | 11,_=>⟨_,_,_,_,_,_,_,rfl⟩
 | 12,_=>⟨_,_,_,_,_,_,_,rfl⟩
 | _+13,h=>absurd h (by omega)
theorem zDi (s:ByteArray) (hz:s.size≤maxLen) (k:Nat) (hk:k<13) (hs:s=fNm k) (w:World) (hsp:Spc w) (htb:Tab w):Calls Tryz.prog 26 #[.string s] w fun r w'=>r=.returned (.tuple #[.agg (cT k),.bool true])∧Below w.heap.size w w':=by
 have HK:Hid (keyOf Tryz.prog 9 (.string s)=some (.string s.data.toList)):=keyOf_string_mk Tryz.underlying9 hz
 obtain⟨V,hV⟩:∃V,V=w.alloc (.cells zC 45):=⟨_,rfl⟩
 have HR:Hid (zAc V w.heap.size 45 zC):=by rw[hV];exact zAc.new _ _ _
 have HV:Hid (Below w.heap.size w V):=by rw[hV];exact(Below.refl _ _).alloc (Nat.le_refl _) _
 have HH:Hid (Maps.has (fcD 13) (.string s.data.toList)=true):=by rw[hs];exact(at_name k hk (.lit (.int .i64 0))).2
 have HA:Hid (∀v ps,fcR v=some ((fcD 13).atKey (.string s.data.toList) (.lit (.int .i64 (-1))),ps)→v=fcV k):=fun v ps hv=>by
  rw[hs,(at_name k hk _).1]at hv
  have h:=(fcR_inv hv (by omega)).2
  rw[h];rfl
 have HT:Hid (∀W,Below w.heap.size w W→Calls Tryz.prog 61 #[fcV k,.string s] W fun r w'=>r=.returned (.agg (cT k))∧Below W.heap.size W w'):=fun W hb=>by rw[hs];exact told_at k hk W (hsp.later hb) (htb.later hb)
 have HF:Hid (Calls Tryz.prog 60 #[] V fun r w'=>r=.returned (.map (some V.heap.size))∧w'.ownsMap Tryz.prog 9 fcR V.heap.size 13 (fcD 13)∧Below V.heap.size V w'):=facts_any V
 have HVV:=zAb hV
 unfold fcV at HA HT
 generalize fSy k=sy at *
 generalize fUs k=us at *
 generalize fFn k=f at *
 obtain⟨a0,a1,a2,a3,a4,a5,a6,hct⟩:=zDs k hk
 rw[hct]at HT ⊢
 clear hct
 clear hV hs hsp htb
 go_enter Tryz.func26,Tryz.ntmps26
 go_wp2_with (first
  | (go_at_call 60;go_must(rw[←un HVV];refine(un HF).mono ?_;rintro e w1 ⟨rfl,hown,hb⟩;have HO:=zAb hown;have HB:=zAb hb;clear hown hb))
  | (at_lookup;refine wpList_lookup_own_ok _ rfl _ _ 99 rfl 9 103 (string_keyed Tryz.underlying9) zDm fcR (Tryz.zeroValue103 _) _ _ fcR_zero V.heap.size 13 (fcD 13) rfl (un HO) _ _ rfl (un HK) ?_;intro v ps hv;obtain rfl:=un HA v ps hv;rw[un HH];clear hv;have HB1:Hid (Below w.heap.size w w1):=(un HV).trans ((un HB).mono (un HV).size);have HR1:=zAb ((un HR).later (un HB)))
  | (go_at_call 61;go_must(refine(un HT _ ((un HB1).alloc (un HB1).size _)).mono ?_;rintro e w2 ⟨rfl,hb⟩;have HB2:=zAb (((un HB1).alloc (un HB1).size _).trans (hb.mono ((un HB1).alloc (un HB1).size _).size));have HR2:=zAb (((un HR1).alloc _).later hb);clear hb))
  | (refine zAn 45 7 zHn rfl (.tmp 2) (.tmp 19) rfl w.heap.size zC #[.string a0,.string a1,.string a2,.string a3,.string a4,.string a5,.string a6] rfl rfl rfl rfl (un HR2) (by kernel_rfl) ?_))
 exact bodyPost_ret (v:=.tuple #[.agg #[.string a0,.string a1,.string a2,.string a3,.string a4,.string a5,.string a6],.bool true]) (res45b Tryz.results26 _ _ w.heap.size _ rfl rfl ((un HR2).setRow _)) rfl ⟨rfl,below_setRow (un HB2) (Nat.le_refl _) _⟩
theorem zHi {a b:ByteArray} (h:(a.toList == b.toList)=true):a=b:=by
  have e:a.toList=b.toList:=by simpa using h
  have h1:a.data.toList=b.data.toList:=by rw[←Lib.toList_data a,←Lib.toList_data b,e]
  exact ByteArray.ext (Array.ext' h1)
theorem zFt {P:Program} {k:TypeId} (hk:P.underlying k=some .string) {key:Value} {kl:Lit} (h:keyOf P k key=some kl):∃s,key=.string s:=by
  cases key<;>simp[keyOf,hk,mapKey]at h
  exact⟨_,rfl⟩
theorem key_inv {x y:ByteArray} (h:keyOf Tryz.prog 9 (.string x)=some (.string y.data.toList)):x=y:=by
  simp[keyOf,Tryz.underlying9,mapKey]at h
  exact ByteArray.ext h.2
theorem fNm_other:∀j,j<13→∀k,k<13→j≠k→(Lit.string (fNm j).data.toList).sameKey (.string (fNm k).data.toList)=false:=by decide +kernel
theorem find_other (s:ByteArray) (hz:s.size≤maxLen) (hn:∀k,k<13→s≠fNm k) (w:World) (hsp:Spc w) (htb:Tab w):Calls Tryz.prog 26 #[.string s] w fun r w'=>((∃k,k<13∧fSy k=s∧r=.returned (.tuple #[.agg (cT k),.bool true]))∨((∀k,k<13→fSy k≠s)∧r=.returned (.tuple #[.agg zC,.bool false])))∧Below w.heap.size w w':=by
  have HK:Hid (keyOf Tryz.prog 9 (.string s)=some (.string s.data.toList)):=keyOf_string_mk Tryz.underlying9 hz
  obtain⟨V,hV⟩:∃V,V=w.alloc (.cells zC 45):=⟨_,rfl⟩
  have HR:Hid (zAc V w.heap.size 45 zC):=by rw[hV];exact zAc.new _ _ _
  have HV:Hid (Below w.heap.size w V):=by rw[hV];exact(Below.refl _ _).alloc (Nat.le_refl _) _
  have HGV:Hid (w.heap.size<V.heap.size):=by rw[hV];show _<_;simp
  have HH:Hid (Maps.has (fcD 13) (.string s.data.toList)=false):=has_none s hn
  have HA:Hid (∀v ps,fcR v=some ((fcD 13).atKey (.string s.data.toList) (.lit (.int .i64 (-1))),ps)→v=.agg #[.int .i64 0,.string ⟨#[]⟩,.string ⟨#[]⟩,.nilFunc]):=fun v ps hv=>by
    rw[Maps.atKey_of_not_has (un HH)]at hv
    unfold fcR at hv
    split at hv
    · split at hv
      · rename_i hc
        obtain⟨h1,_⟩:=hc
        cases hv
        omega
      · cases hv
    · rfl
    · cases hv
  have HT:Hid (∀k,k<13→∀W,Below w.heap.size w W→Calls Tryz.prog 61 #[fcV k,.string (fNm k)] W fun r w'=>r=.returned (.agg (cT k))∧Below W.heap.size W w'):=fun k hk W hb=>told_at k hk W (hsp.later hb) (htb.later hb)
  have HF:Hid (Calls Tryz.prog 60 #[] V fun r w'=>r=.returned (.map (some V.heap.size))∧w'.ownsMap Tryz.prog 9 fcR V.heap.size 13 (fcD 13)∧Below V.heap.size V w'):=facts_any V
  have HVV:=zAb hV
  have HN:=zAb hn
  clear hV hn hsp htb
  go_enter Tryz.func26,Tryz.ntmps26
  go_wp2_with (first
    | (go_at_call 60;go_must(rw[←un HVV];refine(un HF).mono ?_;rintro e w1 ⟨rfl,hown,hb⟩;have HO:=zAb hown;have HB:=zAb hb;clear hown hb))
    | (at_lookup;refine wpList_lookup_own_ok _ rfl _ _ 99 rfl 9 103 (string_keyed Tryz.underlying9) zDm fcR (Tryz.zeroValue103 _) _ _ fcR_zero V.heap.size 13 (fcD 13) rfl (un HO) _ _ rfl (un HK) ?_;intro v ps hv;obtain rfl:=un HA v ps hv;rw[un HH];clear hv;have HB1:Hid (Below w.heap.size w w1):=(un HV).trans ((un HB).mono (un HV).size);have HR1:=zAb ((un HR).later (un HB)))
    | (at_range;refine wpList_range_own _ rfl _ 99 rfl 9 103 (string_keyed Tryz.underlying9) zDm fcR V.heap.size 13 (fcD 13) rfl ((un HO).alloc _) ?_;intro w3 hrg hgr hsz;rw[Dm.size_alloc]at hrg;rw[Dm.size_alloc];go_frame))
  have HRG:Hid (w3.ranges Tryz.prog 9 fcR V.heap.size (w1.heap.size+1) 13 (fcD 13) (Maps.has (fcD 13)) (Maps.size (fcD 13))):=hrg
  have HB3:Hid (Below w.heap.size w w3):=((un HB1).alloc (un HB1).size _).grown hgr ((un HB1).alloc (un HB1).size _).size (fun j hj=>by cases hj)
  have HR3:Hid (zAc w3 w.heap.size 45 zC):=(hgr.block _ (zAc.lt ((un HR1).alloc _)) (by simp)).trans ((un HR1).alloc _)
  clear hrg hgr hsz
  go_loopw [7] (fun _ wr=>∃(left:Lit→Bool) (cnt:Nat),Hid (wr.ranges Tryz.prog 9 fcR V.heap.size (w1.heap.size+1) 13 (fcD 13) left cnt)∧Hid ((∀kl,left kl=true→Maps.has (fcD 13) kl=true)∧∀k,k<13→fSy k=s→left (.string (fNm k).data.toList)=true)∧Hid (Below w.heap.size w wr)∧Hid (zAc wr w.heap.size 45 zC)) (fun _ wr=>wr.rangeLeft V.heap.size (w1.heap.size+1))
  case atStart=>exact⟨_,_,HRG,⟨fun _ h=>h,fun k hk _=>(at_name k hk (.lit (.int .i64 0))).2⟩,HB3,HR3⟩
  case round=>
    obtain⟨left,cnt,HG,HL,HBr,HRr⟩:=hrel
    go_wp2_with (at_next;go_loud (refine wpList_next_ranges _ rfl _ rfl 9 (string_keyed Tryz.underlying9) fcR (fun x:ByteArray=>.string x) (fun v:Value=>v) (fun key kl h=>zFt Tryz.underlying9 h) (fun v y _=>⟨v,rfl⟩) V.heap.size (w1.heap.size+1) 13 (fcD 13) left cnt rfl (un HG) ?_ ?_))
    · intro _ hl0
      have HE:Hid (∀k,k<13→fSy k≠s):=fun k hk e=>by
        have h1:=(un HL).2 k hk e
        rw[hl0]at h1
        cases h1
      clear hl0 HL HG
      go_wp2_with (refine zAn 45 7 zHn rfl (.tmp 2) (.tmp 34) rfl w.heap.size zC zC rfl rfl rfl rfl (un HRr) (by kernel_rfl) ?_)
      exact bodyPost_ret (v:=.tuple #[.agg zC,.bool false]) (res45b Tryz.results26 _ _ w.heap.size _ rfl rfl ((un HRr).setRow _)) rfl ⟨Or.inr ⟨un HE,rfl⟩,below_setRow (un HBr) (Nat.le_refl _) _⟩
    · intro x v kl d ps w4 cnt4 hkx hlx hv hat hrg4 hlt hg4 hs4 hen
      obtain⟨k,hk,rfl⟩:=has_only kl 13 ((un HL).1 kl hlx)
      obtain rfl:x=fNm k:=key_inv hkx
      obtain rfl:d=.lit (.int .i64 (k:Int)):=by have h:=hat (.lit (.int .i64 0));rw[(at_name k hk _).1]at h;exact h.symm
      obtain rfl:v=fcV k:=by have h:=(fcR_inv hv (by omega)).2;rw[h];rfl
      have hle:w.heap.size≤w1.heap.size:=(un HB1).size
      have HB4:Hid (Below w.heap.size w w4):=(un HBr).grown hg4 (un HBr).size (fun j hj=>by cases hj;omega)
      have HR4:Hid (zAc w4 w.heap.size 45 zC):=(hg4.block _ (zAc.lt (un HRr)) (by simp;omega)).trans (un HRr)
      have HG4:=zAb hrg4
      have HLT:Hid (cnt4<cnt):=hlt
      have HTK:=zAb (un HT k hk)
      have HCK:Hid (cnt=wr.rangeLeft V.heap.size (w1.heap.size+1)):=(un HG).left_eq.symm
      obtain⟨a0,a1,a2,a3,a4,a5,a6,hct⟩:=zDs k hk
      have hL1:∀z,(left z && !z.sameKey (.string (fNm k).data.toList))=true→Maps.has (fcD 13) z=true:=fun z h=>(un HL).1 z (by simp at h;exact h.1)
      have HL1:=zAb hL1
      clear hrg4 hlt hkx hlx hv hat hg4 hs4 hL1
      by_cases e:fSy k=s
      · have HOUT:Hid (∃k,k<13∧fSy k=s∧Ending.returned (.tuple #[.agg #[.string a0,.string a1,.string a2,.string a3,.string a4,.string a5,.string a6],.bool true])=Ending.returned (.tuple #[.agg (cT k),.bool true])):=⟨k,hk,e,by rw[hct]⟩
        rw[hct]at HTK
        unfold fcV at hen HTK
        have hq:((fSy k).toList == s.toList)=true:=by rw[e];simp
        clear hct HL HL1 e
        generalize fSy k=sy at *
        generalize fUs k=us at *
        generalize fFn k=f at *
        generalize fNm k=nm at *
        go_wp2_with (first
          | (go_at_call 61;go_must(refine(un HTK _ ((un HB4).alloc (un HB4).size _)).mono ?_;rintro e w5 ⟨rfl,hb⟩;have HB5:=zAb (((un HB4).alloc (un HB4).size _).trans (hb.mono ((un HB4).alloc (un HB4).size _).size));have HR5:=zAb (((un HR4).alloc _).later hb);clear hb))
          | (refine zAn 45 7 zHn rfl (.tmp 2) (.tmp 33) rfl w.heap.size zC #[.string a0,.string a1,.string a2,.string a3,.string a4,.string a5,.string a6] rfl rfl rfl rfl (un HR5) (by kernel_rfl) ?_))
        exact bodyPost_ret (v:=.tuple #[.agg #[.string a0,.string a1,.string a2,.string a3,.string a4,.string a5,.string a6],.bool true]) (res45b Tryz.results26 _ _ w.heap.size _ rfl rfl ((un HR5).setRow _)) rfl ⟨Or.inl (un HOUT),below_setRow (un HB5) (Nat.le_refl _) _⟩
      · have HL2:Hid (∀j,j<13→fSy j=s→(left (.string (fNm j).data.toList) && !(Lit.string (fNm j).data.toList).sameKey (.string (fNm k).data.toList))=true):=fun j hj ej=>by
          rw[(un HL).2 j hj ej]
          have hne:j≠k:=fun h=>e (h ▸ ej)
          rw[fNm_other j hj k hk hne];rfl
        unfold fcV at hen HTK
        have hq:((fSy k).toList == s.toList)=false:=by
          cases h:((fSy k).toList == s.toList)with
          | false=>rfl
          | true=>exact absurd (zHi h) e
        clear hct HL e HTK
        generalize fSy k=sy at *
        generalize fUs k=us at *
        generalize fFn k=f at *
        go_wp2_with fail
        go_roundw
        case rel=>exact⟨_,_,(un HG4).alloc _,⟨un HL1,un HL2⟩,(un HB4).alloc (un HB4).size _,(un HR4).alloc _⟩
        case measure=>rw[←un HCK,((un HG4).alloc _).left_eq];exact un HLT
end Go.Proofs.YtliadckofhblnaaGreatDoor.Nt
namespace Go.Proofs.YtliadckofhblnaaGreatDoor.Nt
open Go.RowKit
def cAll:Array Value:=((List.range 13).flatMap fun k=>(cT k).toList).toArray
theorem info28n:(Tryz.prog.info? 28).map (·.size)=some 2:=by kernel_rfl
theorem info45r:(Tryz.prog.info? 45).map (fun i=>(i.zero,i.size,i.bytes))=some (some (.agg zC),7,112):=by kernel_rfl
theorem under41:Tryz.prog.underlying 41=some (.slice 45):=by kernel_rfl
theorem refAll (w:World):Calls Tryz.prog 25 #[] w fun r w'=>∃W,r=.returned (.slice (some ⟨W.heap.size,0,none⟩) 13 13)∧w'=W.alloc (.cells cAll 45)∧Bw w W:=by
 obtain⟨i0,hi,hz0,hz1,hz2⟩:=info_parts info45r;have HI0:=zAb hi;have HZ0:=zAb hz0;have HZ1:=zAb hz1;obtain⟨V,hV⟩:∃V,V=w.alloc (.cells #[G #[],G #[]] 28):=⟨_,rfl⟩;have HR0:Hid (zAc V w.heap.size 28 #[G #[],G #[]]):=by rw[hV];exact zAc.new _ _ _
 have HB0:Hid (Bw w V):=by rw[hV];exact bA
 have HVV:=zAb hV;clear hi hz0 hz1 hz2 hV;go_enter Tryz.func25,Tryz.ntmps25
 go_wp2_with (first
  | (refine zAn 28 2 info28n rfl (.tmp 1) (.tmp 2) rfl w.heap.size #[G #[],G #[]] #[G #[48],G #[49]] rfl rfl rfl rfl (by rw[←un HVV];exact un HR0) (by kernel_rfl) ?_;rw[←un HVV];have HR:Hid (zAc (V.setRow w.heap.size #[G #[48],G #[49]]) w.heap.size 28 #[G #[48],G #[49]]):=(un HR0).setRow _;have HB:Hid (Bw w (V.setRow w.heap.size #[G #[48],G #[49]])):=below_setRow (un HB0) (Nat.le_refl _) _;clear HR0 HB0 HVV;obtain⟨W,hW⟩:∃W,W=V.setRow w.heap.size #[G #[48],G #[49]]:=⟨_,rfl⟩;rw[←hW]at HR HB ⊢;clear hW)
  | (refine wpList_load_row rfl 28 (.tmp 1) rfl w.heap.size rfl 28 #[G #[48],G #[49]] (0,0) _ (un HR) Tryz.underlying28 rfl (by kernel_rfl) ?_)
  | (refine wpList_buildSlice rfl 41 45 13 _ rfl cAll i0 (.agg zC) under41 (un HI0) (un HZ0) (by rw[un HZ1];decide) (by rw[un HZ1];decide) (by rw[un HZ1];kernel_rfl) ?_))
 go_ret
 exact⟨W,rfl,rfl,un HB⟩
theorem cAll_ex:∀k,k<13→cAll.extract (k*7) (k*7+7)=cT k
 | 0,_=>by kernel_rfl
 | 1,_=>by kernel_rfl
 | 2,_=>by kernel_rfl
 | 3,_=>by kernel_rfl
 | 4,_=>by kernel_rfl
 | 5,_=>by kernel_rfl
 | 6,_=>by kernel_rfl
 | 7,_=>by kernel_rfl
 | 8,_=>by kernel_rfl
 | 9,_=>by kernel_rfl
 | 10,_=>by kernel_rfl
 | 11,_=>by kernel_rfl
 | 12,_=>by kernel_rfl
 | _+13,h=>absurd h (by omega)
theorem cAll_size:cAll.size=91:=by kernel_rfl
theorem cT_size:∀k,k<13→(cT k).size=7:=by decide +kernel
theorem cAll_row (k:Nat) (hk:k<13) (i:Nat) (v:Value) (h:(cT k)[i]?=some v):cAll[k*7+i]?=some v:=by
 have hi:i<7:=by have:=(Array.getElem?_eq_some_iff.1 h).1;rw[cT_size k hk]at this;exact this
 rw[←cAll_ex k hk,Array.getElem?_extract,if_pos (by rw[cAll_size];omega)]at h;exact h
def CR (W:World) (g k:Nat):Prop:=∀i v,(cT k)[i]?=some v→W.cell? ⟨g,k*7+i,none⟩=some v
theorem CR.later {W V:World} {B g k:Nat} (h:CR W g k) (hb:Below B W V) (hg:g<B):CR V g k:=fun i v e=>(hb.cell (p:=⟨g,k*7+i,none⟩) hg).trans (h i v e)
theorem cAll_at (W:World) (k:Nat) (hk:k<13):CR (W.alloc (.cells cAll 45)) W.heap.size k:=fun i v e=>(zAc.new W cAll 45).ub.c _ _ (cAll_row k hk i v e)
theorem cT_words:∀k,k<13→∃a2 a3 a4 a5 a6,cT k=#[.string (fNm k),.string (fSy k),.string a2,.string a3,.string a4,.string a5,.string a6]
 | 0,_=>⟨_,_,_,_,_,rfl⟩
 | 1,_=>⟨_,_,_,_,_,rfl⟩
 | 2,_=>⟨_,_,_,_,_,rfl⟩
 | 3,_=>⟨_,_,_,_,_,rfl⟩
 | 4,_=>⟨_,_,_,_,_,rfl⟩
 | 5,_=>⟨_,_,_,_,_,rfl⟩
 | 6,_=>⟨_,_,_,_,_,rfl⟩
 | 7,_=>⟨_,_,_,_,_,rfl⟩
 | 8,_=>⟨_,_,_,_,_,rfl⟩
 | 9,_=>⟨_,_,_,_,_,rfl⟩
 | 10,_=>⟨_,_,_,_,_,rfl⟩
 | 11,_=>⟨_,_,_,_,_,rfl⟩
 | 12,_=>⟨_,_,_,_,_,rfl⟩
 | _+13,h=>absurd h (by omega)
def cB (s:ByteArray) (k:Nat):Bool:=(fNm k).toList == s.toList || (fSy k).toList == s.toList
def FindC (s:ByteArray) (v:Value):Prop:=(∃k:Nat,k<13∧cB s k=true∧v=.tuple #[.agg (cT k),.bool true])∨((∀k,k<13→cB s k=false)∧v=.tuple #[.agg zC,.bool false])
theorem zGi {a b:ByteArray} (h:a=b):(a.toList == b.toList)=true:=by rw[h];simp
theorem find_any (s:ByteArray) (hz:s.size≤maxLen) (w:World) (hsp:Spc w) (htb:Tab w):Calls Tryz.prog 26 #[.string s] w fun r w'=>∃v,r=.returned v∧FindC s v∧Bw w w':=by
 by_cases h:∃k,k<13∧s=fNm k
 ·obtain⟨k,hk,hs⟩:=h
  refine(zDi s hz k hk hs w hsp htb).mono ?_;rintro r w' ⟨rfl,hb⟩;exact⟨_,rfl,Or.inl ⟨k,hk,by unfold cB;rw[zGi hs.symm];rfl,rfl⟩,hb⟩
 ·refine(find_other s hz (fun k hk e=>h ⟨k,hk,e⟩) w hsp htb).mono ?_
  rintro r w' ⟨⟨k,hk,hs,rfl⟩|⟨hs,rfl⟩,hb⟩
  ·exact⟨_,rfl,Or.inl ⟨k,hk,by unfold cB;rw[zGi hs,Bool.or_true],rfl⟩,hb⟩
  ·refine⟨_,rfl,Or.inr ⟨fun k hk=>?_,rfl⟩,hb⟩
   cases e:cB s k with
   | false=>rfl
   | true=>
    unfold cB at e
    rw[Bool.or_eq_true]at e;rcases e with e|e
    ·exact absurd ⟨k,hk,(zHi e).symm⟩ h
    ·exact absurd (zHi e) (hs k hk)
end Go.Proofs.YtliadckofhblnaaGreatDoor.Nt
namespace Go.Proofs.YtliadckofhblnaaGreatDoor
open Go.RowKit
theorem zBj (n d:ByteArray) (x:Rat) (sg:Int) (hsg:Cub.cmpQ x 0=sg) (w:World) (hx:IsR n d x):Calls Tryz.prog 206 #[.agg #[.string n,.string d]] w fun r w'=>r=.returned (.tuple #[I sg,I 0])∧Bw w w':=by
 obtain⟨V,hV⟩:∃V,V=w.alloc (.cells #[.string n,.string d] 28):=⟨_,rfl⟩;have HN:Hid (T2 V w.heap.size (.string n) (.string d)):=by rw[hV];exact⟨by simp[go_sem],by simp[go_sem],by simp[go_sem],by simp[go_sem]⟩
 have HB:Hid (Bw w V):=by rw[hV];exact bA
 have HV:=zAb hV;have HRD:=zAb (fun W=>qread n d x W hx);have HSG:=zAb hsg;clear hV hx hsg;go_enter Tryz.func206,Tryz.ntmps206
 go_upto_region 1 with fail
 rw[←un HV];clear HV;have t0:=(un HN).c0;have t1:=(un HN).c1
 go_upto_region 2 with (go_at_call 118;go_must(refine(un HRD _).mono ?_;rintro e w1 ⟨v1,rfl,hv1,hb1⟩;obtain⟨bz,az,lz,cz,dz,mz,ez,rfl⟩:=hv1.form;have HZ1:=zAb hv1;have HB1:=zAb (bt HB hb1);clear hv1 hb1 t0 t1))
 have hal:Below w1.heap.size w1 (w1.alloc (.cells #[.bool bz,.slice az lz cz,.slice dz mz ez] 82)):=bA;have HX:Hid (zAc (w1.alloc (.cells #[.bool bz,.slice az lz cz,.slice dz mz ez] 82)) w1.heap.size 82 #[.bool bz,.slice az lz cz,.slice dz mz ez]):=zAc.new _ _ _;have HZ2:=zAb ((un HZ1).later hal);have HB2:=zAb (bt HB1 hal);clear hal HZ1 HB1;generalize w1.alloc (.cells #[.bool bz,.slice az lz cz,.slice dz mz ez] 82)=V2 at *
 generalize w1.heap.size=g4 at *
 have z0:V2.cell? ⟨g4,0,none⟩=some (.bool bz):=(un HX).ub.c 0 _ rfl;have z1:V2.cell? ⟨g4,1,none⟩=some (.slice az lz cz):=(un HX).ub.c 1 _ rfl;have z2:V2.cell? ⟨g4,2,none⟩=some (.slice dz mz ez):=(un HX).ub.c 2 _ rfl;have HSI:=zAb (qsign _ _ _ V2 (un HZ2));rw[un HSG]at HSI
 go_wp2_with (go_at_call 68;go_must(refine(un HSI).mono ?_;rintro e w3 ⟨rfl,hb3⟩;have HB3:=zAb (bt HB2 hb3);clear hb3))
 go_ret2
 exact⟨rfl,un HB3⟩
theorem zBd (n d:ByteArray) (x:Rat) (w:World) (hx:IsR n d x):Calls Tryz.prog 172 #[.agg #[.string n,.string d]] w fun r w'=>r=.returned (.bool true)∧Bw w w':=by
 obtain⟨V,hV⟩:∃V,V=w.alloc (.cells #[.string n,.string d] 28):=⟨_,rfl⟩;have HN:Hid (T2 V w.heap.size (.string n) (.string d)):=by rw[hV];exact⟨by simp[go_sem],by simp[go_sem],by simp[go_sem],by simp[go_sem]⟩
 have HB:Hid (Bw w V):=by rw[hV];exact bA
 have HV:=zAb hV;have HRD:=zAb (fun W=>qread n d x W hx)
 skip
 clear hV hx;go_enter Tryz.func172,Tryz.ntmps172
 go_upto_region 1 with fail
 rw[←un HV];clear HV;have t0:=(un HN).c0;have t1:=(un HN).c1
 go_upto_region 2 with (go_at_call 118;go_must(refine(un HRD _).mono ?_;rintro e w1 ⟨v1,rfl,hv1,hb1⟩;obtain⟨bz,az,lz,cz,dz,mz,ez,rfl⟩:=hv1.form;have HZ1:=zAb hv1;have HB1:=zAb (bt HB hb1);clear hv1 hb1 t0 t1))
 go_wp2_with fail
 go_ret
 exact⟨rfl,(un HB1).alloc (un HB1).size _⟩
theorem closed_any (g:Nat) (w:World) (h:w.cell? ⟨g,3,none⟩=some (.bool false)):Calls Tryz.prog 168 #[.pointer (some ⟨g,0,none⟩)] w fun r w'=>r=.returned (I 0)∧w'=w:=by
 go_enter Tryz.func168,Tryz.ntmps168
 go_wp2_with fail
 go_ret
 exact⟨rfl,rfl⟩
theorem room_any (n:Int) (w:World) (h:n<512):Calls Tryz.prog 98 #[I n,I 512] w fun r w'=>r=.returned (I 0)∧w'=w:=by
 have h1:¬(512:Int)≤n:=by omega
 go_enter Tryz.func98,Tryz.ntmps98
 go_wp2_with fail
 go_ret
 exact⟨rfl,rfl⟩
end Go.Proofs.YtliadckofhblnaaGreatDoor
namespace Go.Proofs.YtliadckofhblnaaGreatDoor.Nm
open Go.RowKit
theorem zAb {p:Prop} (h:p):Hid p:=h
theorem un {p:Prop} (h:Hid p):p:=h
def foldR (r:Int):Int:=if r=181 then 956 else if r=8486 then 937 else if r=8491 then 197 else if r=8490 then 75 else if r=8242 then 39 else if r=8217 then 39 else if r=8243 then 34 else r
def zBk (r:Int):Prop:=r=95∨r=197∨r=198∨r=216∨r=229∨r=230∨r=248∨(r≠930∧((65≤r∧r≤90)∨(97≤r∧r≤122)∨(913≤r∧r≤937)∨(945≤r∧r≤969)))
def zFf (r:Int):Prop:=r=8304∨r=185∨r=178∨r=179∨r=8308∨r=8309∨r=8310∨r=8311∨r=8312∨r=8313∨r=8314∨r=8315
def signP (r:Int):Prop:=r=37∨r=39∨r=34∨r=176∨r=8240∨r=8451∨r=8457
instance (r:Int):Decidable (zBk r):=by unfold zBk;infer_instance
instance (r:Int):Decidable (zFf r):=by unfold zFf;infer_instance
instance (r:Int):Decidable (signP r):=by unfold signP;infer_instance
def classF (r:Int):Int:=if zBk r then 1 else if 48≤r∧r≤57 then 2 else if zFf r then 3 else if signP r then 4 else 0
def zCj (r:Int):Int:=classF (foldR r)
theorem folded_any (r:Int) (w:World):Calls Tryz.prog 363 #[.int .i32 r] w fun e w'=>e=.returned (.int .i32 (foldR r))∧w'=w:=by
 by_cases h181:r=181
 ·subst h181
  go_enter Tryz.func363,Tryz.ntmps363
  go_wp2
  go_ret
  exact⟨rfl,rfl⟩
 by_cases h8486:r=8486
 ·subst h8486
  go_enter Tryz.func363,Tryz.ntmps363
  go_wp2
  go_ret
  exact⟨rfl,rfl⟩
 by_cases h8491:r=8491
 ·subst h8491
  go_enter Tryz.func363,Tryz.ntmps363
  go_wp2
  go_ret
  exact⟨rfl,rfl⟩
 by_cases h8490:r=8490
 ·subst h8490
  go_enter Tryz.func363,Tryz.ntmps363
  go_wp2
  go_ret
  exact⟨rfl,rfl⟩
 by_cases h8242:r=8242
 ·subst h8242
  go_enter Tryz.func363,Tryz.ntmps363
  go_wp2
  go_ret
  exact⟨rfl,rfl⟩
 by_cases h8217:r=8217
 ·subst h8217
  go_enter Tryz.func363,Tryz.ntmps363
  go_wp2
  go_ret
  exact⟨rfl,rfl⟩
 by_cases h8243:r=8243
 ·subst h8243
  go_enter Tryz.func363,Tryz.ntmps363
  go_wp2
  go_ret
  exact⟨rfl,rfl⟩
 have hf:foldR r=r:=by unfold foldR;rw[if_neg h181,if_neg h8486,if_neg h8491,if_neg h8490,if_neg h8242,if_neg h8217,if_neg h8243]
 rw[hf];clear hf;have e181:(r == 181)=false:=by rw[beq_eq_false_iff_ne];exact h181
 have e8486:(r == 8486)=false:=by rw[beq_eq_false_iff_ne];exact h8486
 have e8491:(r == 8491)=false:=by rw[beq_eq_false_iff_ne];exact h8491
 have e8490:(r == 8490)=false:=by rw[beq_eq_false_iff_ne];exact h8490
 have e8242:(r == 8242)=false:=by rw[beq_eq_false_iff_ne];exact h8242
 have e8217:(r == 8217)=false:=by rw[beq_eq_false_iff_ne];exact h8217
 have e8243:(r == 8243)=false:=by rw[beq_eq_false_iff_ne];exact h8243
 clear h181 h8486 h8491 h8490 h8242 h8217 h8243;go_enter Tryz.func363,Tryz.ntmps363
 go_wp2
 go_ret
 exact⟨rfl,rfl⟩
theorem isLetter_any (r:Int) (w:World):Calls Tryz.prog 373 #[.int .i32 r] w fun e w'=>e=.returned (.bool (decide (zBk r)))∧w'=w:=by
 by_cases h95:r=95
 ·subst h95
  go_enter Tryz.func373,Tryz.ntmps373
  go_wp2
  go_ret
  exact⟨by rfl,rfl⟩
 by_cases h197:r=197
 ·subst h197
  go_enter Tryz.func373,Tryz.ntmps373
  go_wp2
  go_ret
  exact⟨by rfl,rfl⟩
 by_cases h198:r=198
 ·subst h198
  go_enter Tryz.func373,Tryz.ntmps373
  go_wp2
  go_ret
  exact⟨by rfl,rfl⟩
 by_cases h216:r=216
 ·subst h216
  go_enter Tryz.func373,Tryz.ntmps373
  go_wp2
  go_ret
  exact⟨by rfl,rfl⟩
 by_cases h229:r=229
 ·subst h229
  go_enter Tryz.func373,Tryz.ntmps373
  go_wp2
  go_ret
  exact⟨by rfl,rfl⟩
 by_cases h230:r=230
 ·subst h230
  go_enter Tryz.func373,Tryz.ntmps373
  go_wp2
  go_ret
  exact⟨by rfl,rfl⟩
 by_cases h248:r=248
 ·subst h248
  go_enter Tryz.func373,Tryz.ntmps373
  go_wp2
  go_ret
  exact⟨by rfl,rfl⟩
 by_cases h930:r=930
 ·subst h930
  go_enter Tryz.func373,Tryz.ntmps373
  go_wp2
  go_ret
  exact⟨by rfl,rfl⟩
 have e95:(r == 95)=false:=by rw[beq_eq_false_iff_ne];exact h95
 have e197:(r == 197)=false:=by rw[beq_eq_false_iff_ne];exact h197
 have e198:(r == 198)=false:=by rw[beq_eq_false_iff_ne];exact h198
 have e216:(r == 216)=false:=by rw[beq_eq_false_iff_ne];exact h216
 have e229:(r == 229)=false:=by rw[beq_eq_false_iff_ne];exact h229
 have e230:(r == 230)=false:=by rw[beq_eq_false_iff_ne];exact h230
 have e248:(r == 248)=false:=by rw[beq_eq_false_iff_ne];exact h248
 have e930:(r == 930)=false:=by rw[beq_eq_false_iff_ne];exact h930
 rcases(by omega:r≤64∨(65≤r∧r≤90)∨(91≤r∧r≤96)∨(97≤r∧r≤122)∨(123≤r∧r≤912)∨(913≤r∧r≤937)∨(938≤r∧r≤944)∨(945≤r∧r≤969)∨970≤r)with hi|⟨hi,hj⟩|⟨hi,hj⟩|⟨hi,hj⟩|⟨hi,hj⟩|⟨hi,hj⟩|⟨hi,hj⟩|⟨hi,hj⟩|hi
 ·have hv:decide (zBk r)=false:=by rw[decide_eq_false_iff_not];unfold zBk;omega
  rw[hv];clear hv h95 h197 h198 h216 h229 h230 h248 h930;go_enter Tryz.func373,Tryz.ntmps373
  go_wp2
  go_ret
  exact⟨rfl,rfl⟩
 ·have hv:decide (zBk r)=true:=by rw[decide_eq_true_iff];unfold zBk;omega
  rw[hv];clear hv h95 h197 h198 h216 h229 h230 h248 h930;go_enter Tryz.func373,Tryz.ntmps373
  go_wp2
  go_ret
  exact⟨rfl,rfl⟩
 ·have hv:decide (zBk r)=false:=by rw[decide_eq_false_iff_not];unfold zBk;omega
  rw[hv];have d90:decide (r≤90)=false:=by rw[decide_eq_false_iff_not];omega
  clear hv h95 h197 h198 h216 h229 h230 h248 h930;go_enter Tryz.func373,Tryz.ntmps373
  go_wp2
  go_ret
  exact⟨rfl,rfl⟩
 ·have hv:decide (zBk r)=true:=by rw[decide_eq_true_iff];unfold zBk;omega
  rw[hv];have d90:decide (r≤90)=false:=by rw[decide_eq_false_iff_not];omega
  clear hv h95 h197 h198 h216 h229 h230 h248 h930;go_enter Tryz.func373,Tryz.ntmps373
  go_wp2
  go_ret
  exact⟨rfl,rfl⟩
 ·have hv:decide (zBk r)=false:=by rw[decide_eq_false_iff_not];unfold zBk;omega
  rw[hv];have d90:decide (r≤90)=false:=by rw[decide_eq_false_iff_not];omega
  have d122:decide (r≤122)=false:=by rw[decide_eq_false_iff_not];omega
  clear hv h95 h197 h198 h216 h229 h230 h248 h930;go_enter Tryz.func373,Tryz.ntmps373
  go_wp2
  go_ret
  exact⟨rfl,rfl⟩
 ·have hv:decide (zBk r)=true:=by rw[decide_eq_true_iff];unfold zBk;omega
  rw[hv];have d90:decide (r≤90)=false:=by rw[decide_eq_false_iff_not];omega
  have d122:decide (r≤122)=false:=by rw[decide_eq_false_iff_not];omega
  clear hv h95 h197 h198 h216 h229 h230 h248 h930;go_enter Tryz.func373,Tryz.ntmps373
  go_wp2
  go_ret
  exact⟨rfl,rfl⟩
 ·have hv:decide (zBk r)=false:=by rw[decide_eq_false_iff_not];unfold zBk;omega
  rw[hv];have d90:decide (r≤90)=false:=by rw[decide_eq_false_iff_not];omega
  have d122:decide (r≤122)=false:=by rw[decide_eq_false_iff_not];omega
  have d937:decide (r≤937)=false:=by rw[decide_eq_false_iff_not];omega
  clear hv h95 h197 h198 h216 h229 h230 h248 h930;go_enter Tryz.func373,Tryz.ntmps373
  go_wp2
  go_ret
  exact⟨rfl,rfl⟩
 ·have hv:decide (zBk r)=true:=by rw[decide_eq_true_iff];unfold zBk;omega
  rw[hv];have d90:decide (r≤90)=false:=by rw[decide_eq_false_iff_not];omega
  have d122:decide (r≤122)=false:=by rw[decide_eq_false_iff_not];omega
  have d937:decide (r≤937)=false:=by rw[decide_eq_false_iff_not];omega
  clear hv h95 h197 h198 h216 h229 h230 h248 h930;go_enter Tryz.func373,Tryz.ntmps373
  go_wp2
  go_ret
  exact⟨rfl,rfl⟩
 ·have hv:decide (zBk r)=false:=by rw[decide_eq_false_iff_not];unfold zBk;omega
  rw[hv];have d90:decide (r≤90)=false:=by rw[decide_eq_false_iff_not];omega
  have d122:decide (r≤122)=false:=by rw[decide_eq_false_iff_not];omega
  have d937:decide (r≤937)=false:=by rw[decide_eq_false_iff_not];omega
  have d969:decide (r≤969)=false:=by rw[decide_eq_false_iff_not];omega
  clear hv h95 h197 h198 h216 h229 h230 h248 h930;go_enter Tryz.func373,Tryz.ntmps373
  go_wp2
  go_ret
  exact⟨rfl,rfl⟩
theorem isSign_any (r:Int) (w:World):Calls Tryz.prog 375 #[.int .i32 r] w fun e w'=>e=.returned (.bool (decide (signP r)))∧w'=w:=by
 by_cases h37:r=37
 ·subst h37
  go_enter Tryz.func375,Tryz.ntmps375
  go_wp2
  go_ret
  exact⟨by rfl,rfl⟩
 by_cases h39:r=39
 ·subst h39
  go_enter Tryz.func375,Tryz.ntmps375
  go_wp2
  go_ret
  exact⟨by rfl,rfl⟩
 by_cases h34:r=34
 ·subst h34
  go_enter Tryz.func375,Tryz.ntmps375
  go_wp2
  go_ret
  exact⟨by rfl,rfl⟩
 by_cases h176:r=176
 ·subst h176
  go_enter Tryz.func375,Tryz.ntmps375
  go_wp2
  go_ret
  exact⟨by rfl,rfl⟩
 by_cases h8240:r=8240
 ·subst h8240
  go_enter Tryz.func375,Tryz.ntmps375
  go_wp2
  go_ret
  exact⟨by rfl,rfl⟩
 by_cases h8451:r=8451
 ·subst h8451
  go_enter Tryz.func375,Tryz.ntmps375
  go_wp2
  go_ret
  exact⟨by rfl,rfl⟩
 by_cases h8457:r=8457
 ·subst h8457
  go_enter Tryz.func375,Tryz.ntmps375
  go_wp2
  go_ret
  exact⟨by rfl,rfl⟩
 have hv:decide (signP r)=false:=by rw[decide_eq_false_iff_not];unfold signP;omega
 rw[hv];have e37:(r == 37)=false:=by rw[beq_eq_false_iff_ne];exact h37
 have e39:(r == 39)=false:=by rw[beq_eq_false_iff_ne];exact h39
 have e34:(r == 34)=false:=by rw[beq_eq_false_iff_ne];exact h34
 have e176:(r == 176)=false:=by rw[beq_eq_false_iff_ne];exact h176
 have e8240:(r == 8240)=false:=by rw[beq_eq_false_iff_ne];exact h8240
 have e8451:(r == 8451)=false:=by rw[beq_eq_false_iff_ne];exact h8451
 have e8457:(r == 8457)=false:=by rw[beq_eq_false_iff_ne];exact h8457
 clear hv h37 h39 h34 h176 h8240 h8451 h8457;go_enter Tryz.func375,Tryz.ntmps375
 go_wp2
 go_ret
 exact⟨rfl,rfl⟩
end Go.Proofs.YtliadckofhblnaaGreatDoor.Nm

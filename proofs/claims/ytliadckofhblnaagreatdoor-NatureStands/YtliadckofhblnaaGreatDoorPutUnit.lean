/- putUnit (27): the unit told stands in the registry. -/
import Derived.Test.YtliadckofhblnaaGreatDoorLimb3
import Derived.Test.YtliadckofhblnaaGreatDoorReg2
import Derived.Test.YtliadckofhblnaaGreatDoorUnit2
import Derived.Maps.OwnSet
import Derived.OwnWalk
import Derived.Laws.AppendOwn
set_option maxHeartbeats 8000000
set_option maxRecDepth 100000
namespace Go.Proofs.YtliadckofhblnaaGreatDoor
open Go.RowKit
theorem rightUnit_any (nm sy fn fd on od:ByteArray) (d0 d1 d2 d3 d4 d5 d6 d7 tk:Int) (w:World)
  (h36:∀W,Below w.heap.size w W→Calls Tryz.prog 169 #[.string nm,.string sy] W fun r w'=>r=.returned (.bool true)∧Bw W w')
  (h37:∀W,Below w.heap.size w W→Calls Tryz.prog 170 #[.agg #[I d0,I d1,I d2,I d3,I d4,I d5,I d6,I d7]] W fun r w'=>r=.returned (.bool true)∧Bw W w')
  (h38:∀W,Below w.heap.size w W→Calls Tryz.prog 171 #[.agg #[.string fn,.string fd]] W fun r w'=>r=.returned (.bool true)∧Bw W w')
  (h39:∀W,Below w.heap.size w W→Calls Tryz.prog 172 #[.agg #[.string on,.string od]] W fun r w'=>r=.returned (.bool true)∧Bw W w')
  (h40:∀W,Below w.heap.size w W→Calls Tryz.prog 173 #[.agg #[.string nm,.string sy,I d0,I d1,I d2,I d3,I d4,I d5,I d6,I d7,.string fn,.string fd,.string on,.string od,I tk]] W fun r w'=>r=.returned (.bool true)∧Bw W w') :
  Calls Tryz.prog 96 #[.agg #[.string nm,.string sy,I d0,I d1,I d2,I d3,I d4,I d5,I d6,I d7,.string fn,.string fd,.string on,.string od,I tk]] w fun r w'=>r=.returned (.bool true)∧Bw w w':=by
 obtain⟨V,hV⟩:∃V,V=w.alloc (.cells #[.string nm,.string sy,I d0,I d1,I d2,I d3,I d4,I d5,I d6,I d7,.string fn,.string fd,.string on,.string od,I tk] 30):=⟨_,rfl⟩;have HU0:Hid (zAc V w.heap.size 30 #[.string nm,.string sy,I d0,I d1,I d2,I d3,I d4,I d5,I d6,I d7,.string fn,.string fd,.string on,.string od,I tk]):=by rw[hV];exact zAc.new _ _ _
 have HB0:Hid (Bw w V):=by rw[hV];exact bA
 have HV:=zAb hV;have H36:=zAb h36;have H37:=zAb h37;have H38:=zAb h38;have H39:=zAb h39;have H40:=zAb h40;clear hV h36 h37 h38 h39 h40;go_enter Tryz.func96,Tryz.ntmps96
 go_upto_region 1 with fail
 rw[←un HV];clear HV;have u0:V.cell? ⟨w.heap.size,0,none⟩=some (.string nm):=(un HU0).ub.c 0 _ rfl;have u1:V.cell? ⟨w.heap.size,1,none⟩=some (.string sy):=(un HU0).ub.c 1 _ rfl;have u2:V.cell? ⟨w.heap.size,2,none⟩=some (I d0):=(un HU0).ub.c 2 _ rfl;have u3:V.cell? ⟨w.heap.size,3,none⟩=some (I d1):=(un HU0).ub.c 3 _ rfl;have u4:V.cell? ⟨w.heap.size,4,none⟩=some (I d2):=(un HU0).ub.c 4 _ rfl;have u5:V.cell? ⟨w.heap.size,5,none⟩=some (I d3):=(un HU0).ub.c 5 _ rfl;have u6:V.cell? ⟨w.heap.size,6,none⟩=some (I d4):=(un HU0).ub.c 6 _ rfl;have u7:V.cell? ⟨w.heap.size,7,none⟩=some (I d5):=(un HU0).ub.c 7 _ rfl;have u8:V.cell? ⟨w.heap.size,8,none⟩=some (I d6):=(un HU0).ub.c 8 _ rfl;have u9:V.cell? ⟨w.heap.size,9,none⟩=some (I d7):=(un HU0).ub.c 9 _ rfl;have u10:V.cell? ⟨w.heap.size,10,none⟩=some (.string fn):=(un HU0).ub.c 10 _ rfl;have u11:V.cell? ⟨w.heap.size,11,none⟩=some (.string fd):=(un HU0).ub.c 11 _ rfl;have u12:V.cell? ⟨w.heap.size,12,none⟩=some (.string on):=(un HU0).ub.c 12 _ rfl;have u13:V.cell? ⟨w.heap.size,13,none⟩=some (.string od):=(un HU0).ub.c 13 _ rfl;have u14:V.cell? ⟨w.heap.size,14,none⟩=some (I tk):=(un HU0).ub.c 14 _ rfl
 go_wp2_with (first
  | (go_at_call 169;go_must(refine(un H36 _ (un HB0)).mono ?_;rintro e W1 ⟨rfl,hb⟩;have HU1:=zAb ((un HU0).later hb);have HB1:=zAb (bt HB0 hb);clear hb u0 u1 u2 u3 u4 u5 u6 u7 u8 u9 u10 u11 u12 u13 u14;have u0:W1.cell? ⟨w.heap.size,0,none⟩=some (.string nm):=(un HU1).ub.c 0 _ rfl;have u1:W1.cell? ⟨w.heap.size,1,none⟩=some (.string sy):=(un HU1).ub.c 1 _ rfl;have u2:W1.cell? ⟨w.heap.size,2,none⟩=some (I d0):=(un HU1).ub.c 2 _ rfl;have u3:W1.cell? ⟨w.heap.size,3,none⟩=some (I d1):=(un HU1).ub.c 3 _ rfl;have u4:W1.cell? ⟨w.heap.size,4,none⟩=some (I d2):=(un HU1).ub.c 4 _ rfl;have u5:W1.cell? ⟨w.heap.size,5,none⟩=some (I d3):=(un HU1).ub.c 5 _ rfl;have u6:W1.cell? ⟨w.heap.size,6,none⟩=some (I d4):=(un HU1).ub.c 6 _ rfl;have u7:W1.cell? ⟨w.heap.size,7,none⟩=some (I d5):=(un HU1).ub.c 7 _ rfl;have u8:W1.cell? ⟨w.heap.size,8,none⟩=some (I d6):=(un HU1).ub.c 8 _ rfl;have u9:W1.cell? ⟨w.heap.size,9,none⟩=some (I d7):=(un HU1).ub.c 9 _ rfl;have u10:W1.cell? ⟨w.heap.size,10,none⟩=some (.string fn):=(un HU1).ub.c 10 _ rfl;have u11:W1.cell? ⟨w.heap.size,11,none⟩=some (.string fd):=(un HU1).ub.c 11 _ rfl;have u12:W1.cell? ⟨w.heap.size,12,none⟩=some (.string on):=(un HU1).ub.c 12 _ rfl;have u13:W1.cell? ⟨w.heap.size,13,none⟩=some (.string od):=(un HU1).ub.c 13 _ rfl;have u14:W1.cell? ⟨w.heap.size,14,none⟩=some (I tk):=(un HU1).ub.c 14 _ rfl))
  | (go_at_call 170;go_must(refine(un H37 _ (un HB1)).mono ?_;rintro e W2 ⟨rfl,hb⟩;have HU2:=zAb ((un HU1).later hb);have HB2:=zAb (bt HB1 hb);clear hb u0 u1 u2 u3 u4 u5 u6 u7 u8 u9 u10 u11 u12 u13 u14;have u0:W2.cell? ⟨w.heap.size,0,none⟩=some (.string nm):=(un HU2).ub.c 0 _ rfl;have u1:W2.cell? ⟨w.heap.size,1,none⟩=some (.string sy):=(un HU2).ub.c 1 _ rfl;have u2:W2.cell? ⟨w.heap.size,2,none⟩=some (I d0):=(un HU2).ub.c 2 _ rfl;have u3:W2.cell? ⟨w.heap.size,3,none⟩=some (I d1):=(un HU2).ub.c 3 _ rfl;have u4:W2.cell? ⟨w.heap.size,4,none⟩=some (I d2):=(un HU2).ub.c 4 _ rfl;have u5:W2.cell? ⟨w.heap.size,5,none⟩=some (I d3):=(un HU2).ub.c 5 _ rfl;have u6:W2.cell? ⟨w.heap.size,6,none⟩=some (I d4):=(un HU2).ub.c 6 _ rfl;have u7:W2.cell? ⟨w.heap.size,7,none⟩=some (I d5):=(un HU2).ub.c 7 _ rfl;have u8:W2.cell? ⟨w.heap.size,8,none⟩=some (I d6):=(un HU2).ub.c 8 _ rfl;have u9:W2.cell? ⟨w.heap.size,9,none⟩=some (I d7):=(un HU2).ub.c 9 _ rfl;have u10:W2.cell? ⟨w.heap.size,10,none⟩=some (.string fn):=(un HU2).ub.c 10 _ rfl;have u11:W2.cell? ⟨w.heap.size,11,none⟩=some (.string fd):=(un HU2).ub.c 11 _ rfl;have u12:W2.cell? ⟨w.heap.size,12,none⟩=some (.string on):=(un HU2).ub.c 12 _ rfl;have u13:W2.cell? ⟨w.heap.size,13,none⟩=some (.string od):=(un HU2).ub.c 13 _ rfl;have u14:W2.cell? ⟨w.heap.size,14,none⟩=some (I tk):=(un HU2).ub.c 14 _ rfl))
  | (go_at_call 171;go_must(refine(un H38 _ (un HB2)).mono ?_;rintro e W3 ⟨rfl,hb⟩;have HU3:=zAb ((un HU2).later hb);have HB3:=zAb (bt HB2 hb);clear hb u0 u1 u2 u3 u4 u5 u6 u7 u8 u9 u10 u11 u12 u13 u14;have u0:W3.cell? ⟨w.heap.size,0,none⟩=some (.string nm):=(un HU3).ub.c 0 _ rfl;have u1:W3.cell? ⟨w.heap.size,1,none⟩=some (.string sy):=(un HU3).ub.c 1 _ rfl;have u2:W3.cell? ⟨w.heap.size,2,none⟩=some (I d0):=(un HU3).ub.c 2 _ rfl;have u3:W3.cell? ⟨w.heap.size,3,none⟩=some (I d1):=(un HU3).ub.c 3 _ rfl;have u4:W3.cell? ⟨w.heap.size,4,none⟩=some (I d2):=(un HU3).ub.c 4 _ rfl;have u5:W3.cell? ⟨w.heap.size,5,none⟩=some (I d3):=(un HU3).ub.c 5 _ rfl;have u6:W3.cell? ⟨w.heap.size,6,none⟩=some (I d4):=(un HU3).ub.c 6 _ rfl;have u7:W3.cell? ⟨w.heap.size,7,none⟩=some (I d5):=(un HU3).ub.c 7 _ rfl;have u8:W3.cell? ⟨w.heap.size,8,none⟩=some (I d6):=(un HU3).ub.c 8 _ rfl;have u9:W3.cell? ⟨w.heap.size,9,none⟩=some (I d7):=(un HU3).ub.c 9 _ rfl;have u10:W3.cell? ⟨w.heap.size,10,none⟩=some (.string fn):=(un HU3).ub.c 10 _ rfl;have u11:W3.cell? ⟨w.heap.size,11,none⟩=some (.string fd):=(un HU3).ub.c 11 _ rfl;have u12:W3.cell? ⟨w.heap.size,12,none⟩=some (.string on):=(un HU3).ub.c 12 _ rfl;have u13:W3.cell? ⟨w.heap.size,13,none⟩=some (.string od):=(un HU3).ub.c 13 _ rfl;have u14:W3.cell? ⟨w.heap.size,14,none⟩=some (I tk):=(un HU3).ub.c 14 _ rfl))
  | (go_at_call 172;go_must(refine(un H39 _ (un HB3)).mono ?_;rintro e W4 ⟨rfl,hb⟩;have HU4:=zAb ((un HU3).later hb);have HB4:=zAb (bt HB3 hb);clear hb u0 u1 u2 u3 u4 u5 u6 u7 u8 u9 u10 u11 u12 u13 u14;have u0:W4.cell? ⟨w.heap.size,0,none⟩=some (.string nm):=(un HU4).ub.c 0 _ rfl;have u1:W4.cell? ⟨w.heap.size,1,none⟩=some (.string sy):=(un HU4).ub.c 1 _ rfl;have u2:W4.cell? ⟨w.heap.size,2,none⟩=some (I d0):=(un HU4).ub.c 2 _ rfl;have u3:W4.cell? ⟨w.heap.size,3,none⟩=some (I d1):=(un HU4).ub.c 3 _ rfl;have u4:W4.cell? ⟨w.heap.size,4,none⟩=some (I d2):=(un HU4).ub.c 4 _ rfl;have u5:W4.cell? ⟨w.heap.size,5,none⟩=some (I d3):=(un HU4).ub.c 5 _ rfl;have u6:W4.cell? ⟨w.heap.size,6,none⟩=some (I d4):=(un HU4).ub.c 6 _ rfl;have u7:W4.cell? ⟨w.heap.size,7,none⟩=some (I d5):=(un HU4).ub.c 7 _ rfl;have u8:W4.cell? ⟨w.heap.size,8,none⟩=some (I d6):=(un HU4).ub.c 8 _ rfl;have u9:W4.cell? ⟨w.heap.size,9,none⟩=some (I d7):=(un HU4).ub.c 9 _ rfl;have u10:W4.cell? ⟨w.heap.size,10,none⟩=some (.string fn):=(un HU4).ub.c 10 _ rfl;have u11:W4.cell? ⟨w.heap.size,11,none⟩=some (.string fd):=(un HU4).ub.c 11 _ rfl;have u12:W4.cell? ⟨w.heap.size,12,none⟩=some (.string on):=(un HU4).ub.c 12 _ rfl;have u13:W4.cell? ⟨w.heap.size,13,none⟩=some (.string od):=(un HU4).ub.c 13 _ rfl;have u14:W4.cell? ⟨w.heap.size,14,none⟩=some (I tk):=(un HU4).ub.c 14 _ rfl))
  | (go_at_call 173;go_must(refine(un H40 _ (un HB4)).mono ?_;rintro e W5 ⟨rfl,hb⟩;have HU5:=zAb ((un HU4).later hb);have HB5:=zAb (bt HB4 hb);clear hb u0 u1 u2 u3 u4 u5 u6 u7 u8 u9 u10 u11 u12 u13 u14;have u0:W5.cell? ⟨w.heap.size,0,none⟩=some (.string nm):=(un HU5).ub.c 0 _ rfl;have u1:W5.cell? ⟨w.heap.size,1,none⟩=some (.string sy):=(un HU5).ub.c 1 _ rfl;have u2:W5.cell? ⟨w.heap.size,2,none⟩=some (I d0):=(un HU5).ub.c 2 _ rfl;have u3:W5.cell? ⟨w.heap.size,3,none⟩=some (I d1):=(un HU5).ub.c 3 _ rfl;have u4:W5.cell? ⟨w.heap.size,4,none⟩=some (I d2):=(un HU5).ub.c 4 _ rfl;have u5:W5.cell? ⟨w.heap.size,5,none⟩=some (I d3):=(un HU5).ub.c 5 _ rfl;have u6:W5.cell? ⟨w.heap.size,6,none⟩=some (I d4):=(un HU5).ub.c 6 _ rfl;have u7:W5.cell? ⟨w.heap.size,7,none⟩=some (I d5):=(un HU5).ub.c 7 _ rfl;have u8:W5.cell? ⟨w.heap.size,8,none⟩=some (I d6):=(un HU5).ub.c 8 _ rfl;have u9:W5.cell? ⟨w.heap.size,9,none⟩=some (I d7):=(un HU5).ub.c 9 _ rfl;have u10:W5.cell? ⟨w.heap.size,10,none⟩=some (.string fn):=(un HU5).ub.c 10 _ rfl;have u11:W5.cell? ⟨w.heap.size,11,none⟩=some (.string fd):=(un HU5).ub.c 11 _ rfl;have u12:W5.cell? ⟨w.heap.size,12,none⟩=some (.string on):=(un HU5).ub.c 12 _ rfl;have u13:W5.cell? ⟨w.heap.size,13,none⟩=some (.string od):=(un HU5).ub.c 13 _ rfl;have u14:W5.cell? ⟨w.heap.size,14,none⟩=some (I tk):=(un HU5).ub.c 14 _ rfl)))
 go_ret
 exact⟨rfl,un HB5⟩
end Go.Proofs.YtliadckofhblnaaGreatDoor
namespace Go.Proofs.YtliadckofhblnaaGreatDoor
open Go.RowKit Go.Maps Go.ChangeMaps Go.WideMaps
variable {K:Nat→Nat→Array Value→Prop}
def Rm (_:Value):Option (DataW Unit×List MemPlace):=some (.lit (.bool true),[])
theorem under42:Tryz.prog.underlying 112=some (.map 9 192):=by kernel_rfl
theorem under43:Tryz.prog.underlying 113=some (.slice 121):=by kernel_rfl
theorem info52:(Tryz.prog.info? 121).map (fun i=>(i.zero,i.size,i.bytes))=some (some (.pointer none),1,8):=by kernel_rfl
theorem zero68 (W:World):(zeroValue 192).run Tryz.prog W=.ok (.agg #[.pointer none,.pointer none]) W:=by kernel_rfl
theorem row_later {w w':World} {base e s n:Nat} {v:Value} {xs:List Value} (h:w.ownsRow base e s v n xs) (hb:Below w.heap.size w w'):w'.ownsRow base e s v n xs:=by
  obtain⟨hl,h⟩:=h;refine⟨hl,?_⟩;rcases h with h|⟨g,cap,cur,hv,hbg,hg,h1,h2,h3,h4⟩
  · exact Or.inl h
  · exact Or.inr ⟨g,cap,cur,hv,hbg,(hb.block g (Array.getElem?_eq_some_iff.1 hg).1).trans hg,h1,h2,h3,h4⟩
theorem map_later {w w':World} {b n:Nat} {D:DataW Unit} (h:w.ownsMap Tryz.prog 9 Rm b n D) (hb:Below w.heap.size w w'):w'.ownsMap Tryz.prog 9 Rm b n D:=by
  have hlt:=h.lt;obtain⟨es,clock,hh,F,hs,hD⟩:=h;exact⟨es,clock,(hb.block b hlt).trans hh,F,hs,hD⟩
theorem zAc.grown {W V:World} {g ty:Nat} {vs:Array Value} {row:Option Nat} (h:zAc W g ty vs) (hg:W.grownBy V row) (hne:some g≠row):zAc V g ty vs:=(hg.block g h.lt hne).trans h
theorem zEn {W:World} {base e s n g ty:Nat} {v:Value} {xs:List Value} {us:Array Value} (h:W.ownsRow base e s v n xs) (ho:zAc W g ty us) (hne:ty≠e):some g≠v.ownBlock:=by
  rcases h.2 with ⟨rfl,_⟩|⟨g',cap,cur,rfl,_,hg,_⟩
  · intro e;cases e
  · intro e
    have e':g=g':=by simpa [Value.ownBlock] using e
    subst e';unfold zAc at ho
    rw[ho]at hg;simp at hg
    exact hne hg.2
theorem row_ne_map {W:World} {base e s n b k:Nat} {v:Value} {xs:List Value} {D:DataW Unit} (h:W.ownsRow base e s v n xs) (ho:W.ownsMap Tryz.prog 9 Rm b k D):some b≠v.ownBlock:=by
  rcases h.2 with ⟨rfl,_⟩|⟨g',cap,cur,rfl,_,hg,_⟩
  · intro e;cases e
  · intro e
    have e':b=g':=by simpa [Value.ownBlock] using e
    subst e';obtain⟨es,clock,hb,_⟩:=ho;rw[hb]at hg
    cases hg
theorem zFs {W:World} {b k g ty:Nat} {D:DataW Unit} {us:Array Value} (ho:W.ownsMap Tryz.prog 9 Rm b k D) (h:zAc W g ty us):g≠b:=by
  intro e;subst e;obtain⟨es,clock,hb,_⟩:=ho;unfold zAc at h
  rw[hb]at h
  cases h
theorem wp_mapUpdate_own {H:Type} {P:Program} (w:World) {o:Oper} {a:Act} {K':Act→World→Prop} {Q:Exit→Act→World→Prop} (m x v:Operand) (t:TypeId) (hop:o.op=Op.mapUpdate t m x v)
    (k e:TypeId) (K:Keyed P k) (ht:P.underlying t=some (.map k e)) (R:Value→Option (DataW H×List MemPlace)) (b n:Nat) (D:DataW H)
    (hm:a.eval m=.map (some b)) (hown:w.ownsMap P k R b n D) (hn:n<maxLen) (key val:Value) (kl:Lit) (hx:a.eval x=key) (hv:a.eval v=val) (hkey:keyOf P k key=some kl)
    (d:DataW H) (ps:List MemPlace) (hval:R val=some (d,ps))
    (hK:∀w',w'.ownsMap P k R b (n+1) (D.put kl d)→w.grownBy w' (some b)→K' (a.put o.dst undef) w'):o.wp P a w K' Q:=by
  obtain⟨w',hrun,r1,r2⟩:=hown.update K ht hn hkey hval;unfold Oper.wp;simp[execOp,hop,hm,hx,hv,hrun,Result.andThen];exact hK w' r1 r2
theorem one_new (W:World) (x:Value):∀j u,[x][j]?=some u→(W.alloc (.cells #[x] 121)).cell? ((⟨W.heap.size,0,none⟩:Addr).add j)=some u:=by
  intro j u hj
  cases j with
  | zero=>
    obtain rfl:x=u:=by simpa using hj
    exact(zAc.new W #[x] 121).ub.c 0 _ rfl
  | succ j=>simp at hj
theorem one_one (p:Nat):∀u∈[Value.pointer (some ⟨p,0,none⟩)],u.oneCell'=true:=by
  intro u hu;obtain rfl:=List.mem_singleton.1 hu
  rfl
theorem ty_ne {W:World} {g k ty sy:Nat} {vs us:Array Value} (h:zAc W g ty vs) (h':zAc W k sy us) (hne:ty≠sy):¬g=k:=by
  intro e;subst e;unfold zAc at h h'
  rw[h]at h';simp at h'
  exact hne h'.2
theorem wpR_map {H:Type} {P:Program} {ops:Array Oper} {Q:Exit→Act→World→Prop} {md:Region.Mode} {S S7:World→Prop} {k0:Nat} {i:Nat} {o:Oper} {nn:Nat} {l:Array Bool} {a:Act} {w:World} (hr:Region.ready md ops l=[i]) (ho:ops[i]?=some o) (hg:o.guard=none) (hl:(l.setIfInBounds i true).getD k0 false=true)
    (m x v:Operand) (t:TypeId) (hop:o.op=Op.mapUpdate t m x v)
    (k e:TypeId) (K:Keyed P k) (ht:P.underlying t=some (.map k e)) (R:Value→Option (DataW H×List MemPlace)) (b n:Nat) (D:DataW H)
    (hm:a.eval m=.map (some b)) (hown:w.ownsMap P k R b n D) (hn:n<maxLen) (key val:Value) (kl:Lit) (hx:a.eval x=key) (hv:a.eval v=val) (hkey:keyOf P k key=some kl)
    (d:DataW H) (ps:List MemPlace) (hval:R val=some (d,ps))
    (h:∀w',w'.ownsMap P k R b (n+1) (D.put kl d)→w.grownBy w' (some b)→S7 w'∧wpR P md ops Q k0 S S7 nn (l.setIfInBounds i true) (a.put o.dst undef) w'):wpR P md ops Q k0 S S7 (nn+1) l a w :=
  zAj hr ho hg hl (fun _ hK=>wp_mapUpdate_own w m x v t hop k e K ht R b n D hm hown hn key val kl hx hv hkey d ps hval (fun w' h1 h2=>hK _ _ (h w' h1 h2).1 (h w' h1 h2).2))
structure RG (W:World) (K:Nat→Nat→Array Value→Prop) (base r m:Nat) (vs:Value) (ps:List Nat) (us:List (Array Value)) (n:Nat) (D:DataW Unit):Prop where
  k0:zAc W r 116 #[vs,.slice none 0 0,.map (some m),.bool false]
  row:W.ownsRow base 121 1 vs ps.length (ps.map fun p=>Value.pointer (some ⟨p,0,none⟩))
  mp:W.ownsMap Tryz.prog 9 Rm m n D
  un:∀(i p:Nat) (u:Array Value),ps[i]?=some p→us[i]?=some u→zAc W p 132 (u.push (.slice none 0 0))
  bs:base≤W.heap.size
  ex:∀(g ty:Nat) (us:Array Value),K g ty us→ty≠116∧ty≠121∧zAc W g ty us
theorem RG.later {W V:World} {base r m n:Nat} {vs:Value} {ps:List Nat} {us:List (Array Value)} {D:DataW Unit} (h:RG W K base r m vs ps us n D) (hb:Below W.heap.size W V):RG V K base r m vs ps us n D :=
  ⟨h.k0.later hb,row_later h.row hb,map_later h.mp hb,fun i p u h1 h2=>(h.un i p u h1 h2).later hb,Nat.le_trans h.bs hb.size,fun g ty us hk=>⟨(h.ex g ty us hk).1,(h.ex g ty us hk).2.1,(h.ex g ty us hk).2.2.later hb⟩⟩
theorem RG.grown {W V:World} {base r m n:Nat} {vs:Value} {ps:List Nat} {us:List (Array Value)} {D:DataW Unit} (h:RG W K base r m vs ps us n D) (hg:W.grownBy V (some m)) {n':Nat} {D':DataW Unit} (hm:V.ownsMap Tryz.prog 9 Rm m n' D'):RG V K base r m vs ps us n' D':=by
  refine⟨h.k0.grown hg (fun e=>zFs h.mp h.k0 (by simpa using e)),?_,hm,fun i p u h1 h2=>(h.un i p u h1 h2).grown hg (fun e=>zFs h.mp (h.un i p u h1 h2) (by simpa using e)),?_,fun g ty us hk=>⟨(h.ex g ty us hk).1,(h.ex g ty us hk).2.1,(h.ex g ty us hk).2.2.grown hg (fun e=>zFs h.mp (h.ex g ty us hk).2.2 (by simpa using e))⟩⟩
  · obtain⟨hl,h1⟩:=h.row
    refine⟨hl,?_⟩;rcases h1 with h1|⟨g,cap,cur,hv,hbg,hgg,h2,h3,h4,h5⟩
    · exact Or.inl h1
    · refine Or.inr ⟨g,cap,cur,hv,hbg,(hg.block g (Array.getElem?_eq_some_iff.1 hgg).1 (fun e=>?_)).trans hgg,h2,h3,h4,h5⟩
      have e':g=m:=by simpa using e
      subst e';obtain⟨es,clock,hb,_⟩:=h.mp;rw[hb]at hgg
      cases hgg
  · exact Nat.le_trans h.bs hg.size
theorem RG.more {W A V:World} {base r m n p:Nat} {vs v':Value} {ps:List Nat} {us:List (Array Value)} {u:Array Value} {D:DataW Unit} (h:RG W K base r m vs ps us n D) (hlen:us.length=ps.length)
    (hb:Below W.heap.size W A) (hg:A.grownBy V vs.ownBlock) (hp:zAc A p 132 (u.push (.slice none 0 0))) (hr:V.ownsRow base 121 1 v' (ps.length+1) ((ps.map fun p=>Value.pointer (some ⟨p,0,none⟩)) ++ [.pointer (some ⟨p,0,none⟩)])) :
    RG (V.setCell ⟨r,0,none⟩ v') K base r m v' (ps ++ [p]) (us ++ [u]) n D:=by
  have hA:=h.later hb;have k1:zAc V r 116 #[vs,.slice none 0 0,.map (some m),.bool false]:=hA.k0.grown hg (zEn hA.row hA.k0 (by decide));have m1:V.ownsMap Tryz.prog 9 Rm m n D:=hA.mp.kept hg (row_ne_map hA.row hA.mp);refine⟨k1.set 0 v',?_,m1.setCell (Ne.symm (zFs m1 k1)) _,?_,?_,fun g ty us hk=>⟨(h.ex g ty us hk).1,(h.ex g ty us hk).2.1,((hA.ex g ty us hk).2.2.grown hg (zEn hA.row (hA.ex g ty us hk).2.2 (h.ex g ty us hk).2.1)).otherSet (ty_ne ((hA.ex g ty us hk).2.2.grown hg (zEn hA.row (hA.ex g ty us hk).2.2 (h.ex g ty us hk).2.1)) k1 (h.ex g ty us hk).1) _ _⟩⟩
  · obtain⟨_,h1⟩:=hr
    refine⟨by simp,?_⟩;rcases h1 with ⟨_,h1⟩|⟨g,cap,cur,hv,hbg,hgg,h2,h3,h4,h5⟩
    · omega
    · refine Or.inr ⟨g,cap,cur,by simpa using hv,hbg,(Below.heap_setCell V ⟨r,0,none⟩ v' g (fun e=>?_)).trans hgg,by simpa using h2,h3,h4,by simpa using h5⟩
      have e':g=r:=e;subst e';unfold zAc at k1
      rw[k1]at hgg;simp at hgg
  · intro i q w' h1 h2
    have base':∀(i q:Nat) (w':Array Value),ps[i]?=some q→us[i]?=some w'→zAc (V.setCell ⟨r,0,none⟩ v') q 132 (w'.push (.slice none 0 0)):=fun i q w' h1 h2=>by
      have o1:=hA.un i q w' h1 h2;have o2:=o1.grown hg (zEn hA.row o1 (by decide));refine o2.otherSet (fun e=>?_) _ _;subst e;unfold zAc at o2 k1
      rw[k1]at o2;simp at o2
    by_cases hi:i<ps.length
    · exact base' i q w' (by rw[List.getElem?_append_left hi]at h1;exact h1) (by rw[List.getElem?_append_left (by omega)]at h2;exact h2)
    · have hi2:i=ps.length:=by
        have:=(List.getElem?_eq_some_iff.1 h1).1;simp at this
        omega
      subst hi2;have e1:p=q:=by simpa using h1
      have e2:u=w':=by rw[←hlen]at h2;simpa using h2
      subst e1 e2;have o2:=hp.grown hg (zEn hA.row hp (by decide));refine o2.otherSet (fun e=>?_) _ _;subst e;unfold zAc at o2 k1
      rw[k1]at o2;simp at o2
  · have:=hg.size
    have:=h.bs;have:=hb.size;simp
    omega
theorem zFn {B m:Nat} {w W V:World} (h:Below B w W) (hg:W.grownBy V (some m)) (hm:B≤m) (hl:m<W.heap.size):Below B w V:=by
  refine⟨hg.os.trans h.os,hg.tape.trans h.tape,hg.output.trans h.output,Nat.le_trans h.size hg.size,fun k hk=>(hg.block k (by omega) (fun e=>?_)).trans (h.block k hk)⟩;have e':k=m:=by simpa using e
  omega
theorem zHg {W:World} {base e s n:Nat} {v:Value} {xs:List Value} (h:W.ownsRow base e s v n xs):∃a l c,v=.slice a l c:=by
  rcases h.2 with ⟨rfl,_⟩|⟨g,cap,cur,rfl,_⟩
  · exact⟨_,_,_,rfl⟩
  · exact⟨_,_,_,rfl⟩
theorem row_base {W:World} {base e s n:Nat} {v:Value} {xs:List Value} (h:W.ownsRow base e s v n xs):∀j,some j=v.ownBlock→base≤j:=by
  intro j hj;rcases h.2 with ⟨rfl,_⟩|⟨g,cap,cur,rfl,hb,_⟩
  · cases hj
  · have:j=g:=by simpa [Value.ownBlock] using hj
    omega
end Go.Proofs.YtliadckofhblnaaGreatDoor
namespace Go.Proofs.YtliadckofhblnaaGreatDoor
open Go.RowKit Go.Maps Go.ChangeMaps Go.WideMaps
variable {K:Nat→Nat→Array Value→Prop}
theorem putUnit_any (nm sy fn fd on od:ByteArray) (d0 d1 d2 d3 d4 d5 d6 d7 tk:Int) (base r m n:Nat) (vs:Value) (ps:List Nat) (us:List (Array Value)) (D:DataW Unit) (w0 w:World) (h:RG w K base r m vs ps us n D) (hlen:us.length=ps.length) (hb0:Below base w0 w) (hmb:base≤m) (hrb:base≤r) (hn:n+2<1000000) (hps:ps.length<1000)
  (hs1:nm.size≤maxLen) (hs2:sy.size≤maxLen) :
  Calls Tryz.prog 100 #[.pointer (some ⟨r,0,none⟩),.agg #[.string nm,.string sy,I d0,I d1,I d2,I d3,I d4,I d5,I d6,I d7,.string fn,.string fd,.string on,.string od,I tk]] w fun e w'=>(∃p v',e=.returned (.pointer (some ⟨p,0,none⟩))∧RG w' K base r m v' (ps ++ [p]) (us ++ [#[.string nm,.string sy,I d0,I d1,I d2,I d3,I d4,I d5,I d6,I d7,.string fn,.string fd,.string on,.string od,I tk]]) (n+2) ((D.put (.string nm.data.toList) (.lit (.bool true))).put (.string sy.data.toList) (.lit (.bool true))))∧Below base w0 w':=by
 obtain⟨i0,hi,hz0,hz1,hz2⟩:=info_parts info52;obtain⟨av,lv,cv,rfl⟩:=zHg h.row;obtain⟨V,hV⟩:∃V,V=(w.alloc (.cells #[.string nm,.string sy,I d0,I d1,I d2,I d3,I d4,I d5,I d6,I d7,.string fn,.string fd,.string on,.string od,I tk] 30)).alloc (.cells #[.string nm,.string sy,I d0,I d1,I d2,I d3,I d4,I d5,I d6,I d7,.string fn,.string fd,.string on,.string od,I tk,.slice none 0 0] 132):=⟨_,rfl⟩;have hbV:Below w.heap.size w V:=by rw[hV];exact bA.alloc (by simp) _
 have HU0:Hid (zAc V w.heap.size 30 #[.string nm,.string sy,I d0,I d1,I d2,I d3,I d4,I d5,I d6,I d7,.string fn,.string fd,.string on,.string od,I tk]):=by rw[hV];exact(zAc.new _ _ _).alloc _
 have HP0:Hid (zAc V (w.heap.size+1) 132 #[.string nm,.string sy,I d0,I d1,I d2,I d3,I d4,I d5,I d6,I d7,.string fn,.string fd,.string on,.string od,I tk,.slice none 0 0]):=by rw[hV];have h:=zAc.new (w.alloc (.cells #[.string nm,.string sy,I d0,I d1,I d2,I d3,I d4,I d5,I d6,I d7,.string fn,.string fd,.string on,.string od,I tk] 30)) #[.string nm,.string sy,I d0,I d1,I d2,I d3,I d4,I d5,I d6,I d7,.string fn,.string fd,.string on,.string od,I tk,.slice none 0 0] 132;rw[Dm.size_alloc]at h;exact h
 have HR0:=zAb (h.later hbV);have HB0:Hid (Below base w0 V):=hb0.trans (hbV.mono h.bs);have HLN:=zAb hlen;have HV:=zAb hV;have hsz:w.heap.size+1<V.heap.size:=(un HP0).lt;have hbs:=(un HR0).bs;have HPL:Hid (ps.length+1≤maxLen∧(ps.length+1)*8≤140737488355328):=⟨by unfold maxLen;omega,by omega⟩;have HNM:Hid (n<maxLen∧n+1<maxLen):=by show n<maxLen∧n+1<maxLen;unfold maxLen;omega
 clear h hbV hb0 hV hlen;go_enter Tryz.func100,Tryz.ntmps100
 go_upto_region 2 with fail
 rw[←un HV];clear HV;obtain⟨g3,hg3⟩:∃g3,g3=w.heap.size:=⟨_,rfl⟩;obtain⟨g5,hg5⟩:∃g5,g5=w.heap.size+1:=⟨_,rfl⟩;rw[←hg3]at HU0;rw[←hg5]at HP0;rw[←hg5,←hg3];clear hg3 hg5;have c0:V.cell? ⟨r,0,none⟩=some (.slice av lv cv):=(un HR0).k0.ub.c 0 _ rfl;have hal:Below V.heap.size V (V.alloc (.cells #[.pointer (some ⟨g5,0,none⟩)] 121)):=bA;have HAL:=zAb hal;have HRA:=zAb ((un HR0).later hal);clear hal
 go_upto_region 3 with (at_builtin;go_must(refine wpList_append_own _ rfl _ _ 113 rfl base 121 i0 (.pointer none) 1 8 under43 hi hz0 hz1 hz2 rfl (by decide) _ ps.length (ps.map fun p=>Value.pointer (some ⟨p,0,none⟩)) rfl (un HRA).row ⟨V.heap.size,0,none⟩ 1 1 [.pointer (some ⟨g5,0,none⟩)] rfl rfl (one_new _ _) (one_one _) (un HPL).1 (un HPL).2 (by simp;omega) ?_;intro vn w4 hown hgrow hnil;obtain⟨an,ln,cn,rfl⟩:=zHg hown;have HMO:=zAb ((un HR0).more (u:=#[.string nm,.string sy,I d0,I d1,I d2,I d3,I d4,I d5,I d6,I d7,.string fn,.string fd,.string on,.string od,I tk]) (un HLN) (un HAL) hgrow ((un HP0).later (un HAL)) hown);have HU4:=zAb (((un HU0).later (un HAL)).grown hgrow (zEn (un HRA).row ((un HU0).later (un HAL)) (by decide)));have HB4:=zAb (Below.grown ((un HB0).trans ((un HAL).mono hbs)) hgrow (by simp;omega) (fun j hj=>row_base (un HRA).row j hj.symm));have k4:=zAb ((un HRA).k0.grown hgrow (zEn (un HRA).row (un HRA).k0 (by decide)));have e0:w4.cell? ⟨r,0,none⟩=some (.slice av lv cv):=(un k4).ub.c 0 _ rfl;have ef0:w4.frozen? ⟨r,0,none⟩=false:=(un k4).ub.f 0 (.slice av lv cv) rfl;clear hown hgrow hnil c0))
 have HR3:=zAb (un HMO);have HU3:Hid (zAc (w4.setCell ⟨r,0,none⟩ (.slice an ln cn)) g3 30 #[.string nm,.string sy,I d0,I d1,I d2,I d3,I d4,I d5,I d6,I d7,.string fn,.string fd,.string on,.string od,I tk]):=(un HU4).otherSet (ty_ne (un HU4) (un k4) (by decide)) _ _;have HB3:Hid (Below base w0 (w4.setCell ⟨r,0,none⟩ (.slice an ln cn))):=(un HB4).setCell hrb _;clear HMO HU4 HB4 k4 e0 ef0 HR0 HRA HP0 HU0 HB0 HAL;generalize w4.setCell ⟨r,0,none⟩ (.slice an ln cn)=A at *
 go_upto_region 3 with fail
 have HS3:Hid (∀W',RG W' K base r m (.slice an ln cn) (ps ++ [g5]) (us ++ [#[.string nm,.string sy,I d0,I d1,I d2,I d3,I d4,I d5,I d6,I d7,.string fn,.string fd,.string on,.string od,I tk]]) n D→zAc W' g3 30 #[.string nm,.string sy,I d0,I d1,I d2,I d3,I d4,I d5,I d6,I d7,.string fn,.string fd,.string on,.string od,I tk]→W'.cell? ⟨r,2,none⟩=some (.map (some m))∧W'.cell? ⟨g3,0,none⟩=some (.string nm)):=fun W' h h'=>⟨h.k0.ub.c 2 _ rfl,h'.ub.c 0 _ rfl⟩
 have HG3:=zAb ((un HR3).later (Below.refl _ _).drew);have HA3:=zAb ((un HU3).later (Below.refl _ _).drew);have HBD3:=zAb ((un HB3).drew);have HS0:=zAb (un HS3 _ (un HG3) (un HA3));refine zAi 8 (fun W'=>W'.cell? ⟨r,2,none⟩=some (.map (some m))∧W'.cell? ⟨g3,0,none⟩=some (.string nm)) (fun _=>True) 9 rfl (by kernel_rfl) ?_;refine wT 0 (.pointer (some ⟨r,0,none⟩)) rfl (Or.inl ⟨by rfl,?_⟩) ⟨un HS0,trivial⟩ ?_
 ·intro W' hW
  go_split_ands
  go_simp
 refine wT 1 (.pointer (some ⟨r,0,none⟩)) rfl (Or.inl ⟨by rfl,?_⟩) ⟨un HS0,trivial⟩ ?_
 ·intro W' hW
  go_split_ands
  go_simp
 refine wT 2 (.pointer (some ⟨r,2,none⟩)) rfl (Or.inl ⟨by rfl,?_⟩) ⟨un HS0,trivial⟩ ?_
 ·intro W' hW
  go_split_ands
  go_simp
 refine wT 3 (.map (some m)) rfl (Or.inl ⟨by rfl,?_⟩) ⟨un HS0,trivial⟩ ?_
 ·intro W' hW
  go_split_ands
  go_simp
 refine wT 4 (.pointer (some ⟨g3,0,none⟩)) rfl (Or.inl ⟨by rfl,?_⟩) ⟨un HS0,trivial⟩ ?_
 ·intro W' hW
  go_split_ands
  go_simp
 refine wT 5 (.string nm) rfl (Or.inl ⟨by rfl,?_⟩) ⟨un HS0,trivial⟩ ?_
 ·intro W' hW
  go_split_ands
  go_simp
 refine wT 6 (.pointer (some ⟨g5,0,none⟩)) rfl (Or.inl ⟨by rfl,?_⟩) ⟨un HS0,trivial⟩ ?_
 ·intro W' hW
  go_split_ands
  go_simp
 refine wT 7 (.agg #[.pointer (some ⟨g5,0,none⟩),.pointer none]) rfl (Or.inl ⟨by rfl,?_⟩) ⟨un HS0,trivial⟩ ?_
 ·intro W' hW
  go_split_ands
  go_simp
 clear HS0;refine wpR_map (H:=Unit) (i:=8) (o:=_) (by kernel_rfl) rfl rfl (by kernel_rfl) (.tmp 22) (.tmp 24) (.tmp 26) 112 rfl 9 192 (string_keyed Tryz.underlying9) under42 Rm m n D (by kernel_rfl) (un HG3).mp (un HNM).1 (.string nm) (.agg #[.pointer (some ⟨g5,0,none⟩),.pointer none]) (.string nm.data.toList) (by kernel_rfl) (by kernel_rfl) (keyOf_string_mk Tryz.underlying9 hs1) (.lit (.bool true)) [] rfl ?_;intro wu hown hgrow;refine⟨trivial,?_⟩;have HR4:=zAb ((un HG3).grown hgrow hown);have HU4:=zAb ((un HA3).grown hgrow (fun e=>zFs (un HG3).mp (un HA3) (by simpa using e)));have HB4:=zAb (zFn (un HBD3) hgrow hmb (un HG3).mp.lt);clear hown hgrow HG3 HA3 HBD3 HR3 HU3 HB3 HS3;refine wDn ?_
 go_upto_region 4 with fail
 have HS4:Hid (∀W',RG W' K base r m (.slice an ln cn) (ps ++ [g5]) (us ++ [#[.string nm,.string sy,I d0,I d1,I d2,I d3,I d4,I d5,I d6,I d7,.string fn,.string fd,.string on,.string od,I tk]]) (n+1) (D.put (.string nm.data.toList) (.lit (.bool true)))→zAc W' g3 30 #[.string nm,.string sy,I d0,I d1,I d2,I d3,I d4,I d5,I d6,I d7,.string fn,.string fd,.string on,.string od,I tk]→W'.cell? ⟨r,2,none⟩=some (.map (some m))∧W'.cell? ⟨g3,1,none⟩=some (.string sy)):=fun W' h h'=>⟨h.k0.ub.c 2 _ rfl,h'.ub.c 1 _ rfl⟩
 have HG4:=zAb ((un HR4).later (Below.refl _ _).drew);have HA4:=zAb ((un HU4).later (Below.refl _ _).drew);have HBD4:=zAb ((un HB4).drew);have HS0:=zAb (un HS4 _ (un HG4) (un HA4));refine zAi 8 (fun W'=>W'.cell? ⟨r,2,none⟩=some (.map (some m))∧W'.cell? ⟨g3,1,none⟩=some (.string sy)) (fun _=>True) 9 rfl (by kernel_rfl) ?_;refine wT 0 (.pointer (some ⟨r,0,none⟩)) rfl (Or.inl ⟨by rfl,?_⟩) ⟨un HS0,trivial⟩ ?_
 ·intro W' hW
  go_split_ands
  go_simp
 refine wT 1 (.pointer (some ⟨r,0,none⟩)) rfl (Or.inl ⟨by rfl,?_⟩) ⟨un HS0,trivial⟩ ?_
 ·intro W' hW
  go_split_ands
  go_simp
 refine wT 2 (.pointer (some ⟨r,2,none⟩)) rfl (Or.inl ⟨by rfl,?_⟩) ⟨un HS0,trivial⟩ ?_
 ·intro W' hW
  go_split_ands
  go_simp
 refine wT 3 (.map (some m)) rfl (Or.inl ⟨by rfl,?_⟩) ⟨un HS0,trivial⟩ ?_
 ·intro W' hW
  go_split_ands
  go_simp
 refine wT 4 (.pointer (some ⟨g3,1,none⟩)) rfl (Or.inl ⟨by rfl,?_⟩) ⟨un HS0,trivial⟩ ?_
 ·intro W' hW
  go_split_ands
  go_simp
 refine wT 5 (.string sy) rfl (Or.inl ⟨by rfl,?_⟩) ⟨un HS0,trivial⟩ ?_
 ·intro W' hW
  go_split_ands
  go_simp
 refine wT 6 (.pointer (some ⟨g5,0,none⟩)) rfl (Or.inl ⟨by rfl,?_⟩) ⟨un HS0,trivial⟩ ?_
 ·intro W' hW
  go_split_ands
  go_simp
 refine wT 7 (.agg #[.pointer (some ⟨g5,0,none⟩),.pointer none]) rfl (Or.inl ⟨by rfl,?_⟩) ⟨un HS0,trivial⟩ ?_
 ·intro W' hW
  go_split_ands
  go_simp
 clear HS0;refine wpR_map (H:=Unit) (i:=8) (o:=_) (by kernel_rfl) rfl rfl (by kernel_rfl) (.tmp 30) (.tmp 32) (.tmp 34) 112 rfl 9 192 (string_keyed Tryz.underlying9) under42 Rm m (n+1) (D.put (.string nm.data.toList) (.lit (.bool true))) (by kernel_rfl) (un HG4).mp (un HNM).2 (.string sy) (.agg #[.pointer (some ⟨g5,0,none⟩),.pointer none]) (.string sy.data.toList) (by kernel_rfl) (by kernel_rfl) (keyOf_string_mk Tryz.underlying9 hs2) (.lit (.bool true)) [] rfl ?_;intro wu hown hgrow;refine⟨trivial,?_⟩;have HR5:=zAb ((un HG4).grown hgrow hown);have HU5:=zAb ((un HA4).grown hgrow (fun e=>zFs (un HG4).mp (un HA4) (by simpa using e)));have HB5:=zAb (zFn (un HBD4) hgrow hmb (un HG4).mp.lt);clear hown hgrow HG4 HA4 HBD4 HR4 HU4 HB4 HS4;refine wDn ?_
 go_wp2_with fail
 go_ret
 exact⟨⟨g5,_,rfl,un HR5⟩,un HB5⟩
end Go.Proofs.YtliadckofhblnaaGreatDoor

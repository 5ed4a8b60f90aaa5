/- Add: its three closures, take, Add: a unit that is right and new is put in. -/
import Derived.Test.YtliadckofhblnaaGreatDoorLimb3
import Derived.Test.YtliadckofhblnaaGreatDoorPutUnit
import Derived.Laws.EntriesVeiled
set_option maxHeartbeats 2000000
set_option maxRecDepth 100000
namespace Go.Proofs.YtliadckofhblnaaGreatDoor
open Go.RowKit Go.Maps Go.ChangeMaps Go.WideMaps
theorem row_len {W:World} {base e s n:Nat} {v:Value} {xs:List Value} (h:W.ownsRow base e s v n xs):∃a c,v=.slice a n c:=by
 rcases h.2 with ⟨rfl,h0⟩|⟨g,cap,cur,rfl,_⟩
 ·exact⟨_,_,by rw[h0]⟩
 ·exact⟨_,_,rfl⟩
theorem zFg {W:World} {m n:Nat} {D:DataW Unit} (h:W.ownsMap Tryz.prog 9 Rm m n D) (s:ByteArray) (hs:s.size≤maxLen) (hh:Maps.has D (.string s.data.toList)=false) :
  (Instr.lookup 112 (.map (some m)) (.string s) true).run Tryz.prog W=.ok (.tuple #[.agg #[.pointer none,.pointer none],.bool false]) W:=by
 obtain⟨es,clock,hb,F,_,rfl⟩:=h;rcases Maps.fit_look true (string_keyed Tryz.underlying9) under42 (zero68 W) hb F (keyOf_string_mk Tryz.underlying9 hs)with ⟨hrun,_,hat⟩|⟨e0,y,_,_,hrun,hRv,hat,_⟩
 ·exact hrun
 ·rw[Maps.has_true_of_atKey hat]at hh;cases hh
theorem add1_any (nm sy fn fd on od:ByteArray) (d0 d1 d2 d3 d4 d5 d6 d7 tk:Int) (g:Nat) (w:World) (ho:zAc w g 30 #[.string nm,.string sy,I d0,I d1,I d2,I d3,I d4,I d5,I d6,I d7,.string fn,.string fd,.string on,.string od,I tk]) (h23:∀W,Below w.heap.size w W→Calls Tryz.prog 96 #[.agg #[.string nm,.string sy,I d0,I d1,I d2,I d3,I d4,I d5,I d6,I d7,.string fn,.string fd,.string on,.string od,I tk]] W fun r w'=>r=.returned (.bool true)∧Bw W w') :
  Calls Tryz.prog 95 #[.pointer (some ⟨g,0,none⟩)] w fun r w'=>r=.returned (.bool true)∧Bw w w':=by
 have u0:w.cell? ⟨g,0,none⟩=some (.string nm):=ho.ub.c 0 _ rfl;have u1:w.cell? ⟨g,1,none⟩=some (.string sy):=ho.ub.c 1 _ rfl;have u2:w.cell? ⟨g,2,none⟩=some (I d0):=ho.ub.c 2 _ rfl;have u3:w.cell? ⟨g,3,none⟩=some (I d1):=ho.ub.c 3 _ rfl;have u4:w.cell? ⟨g,4,none⟩=some (I d2):=ho.ub.c 4 _ rfl;have u5:w.cell? ⟨g,5,none⟩=some (I d3):=ho.ub.c 5 _ rfl;have u6:w.cell? ⟨g,6,none⟩=some (I d4):=ho.ub.c 6 _ rfl;have u7:w.cell? ⟨g,7,none⟩=some (I d5):=ho.ub.c 7 _ rfl;have u8:w.cell? ⟨g,8,none⟩=some (I d6):=ho.ub.c 8 _ rfl;have u9:w.cell? ⟨g,9,none⟩=some (I d7):=ho.ub.c 9 _ rfl;have u10:w.cell? ⟨g,10,none⟩=some (.string fn):=ho.ub.c 10 _ rfl;have u11:w.cell? ⟨g,11,none⟩=some (.string fd):=ho.ub.c 11 _ rfl;have u12:w.cell? ⟨g,12,none⟩=some (.string on):=ho.ub.c 12 _ rfl;have u13:w.cell? ⟨g,13,none⟩=some (.string od):=ho.ub.c 13 _ rfl;have u14:w.cell? ⟨g,14,none⟩=some (I tk):=ho.ub.c 14 _ rfl;have H23:=zAb h23;clear h23 ho;go_enter Tryz.func95,Tryz.ntmps95
 go_wp2_with (go_at_call 96;go_must(refine(un H23 _ (Below.refl _ _)).mono ?_;rintro e W1 ⟨rfl,hb⟩;have HB:=zAb hb;clear hb u0 u1 u2 u3 u4 u5 u6 u7 u8 u9 u10 u11 u12 u13 u14))
 go_ret
 exact⟨rfl,un HB⟩
theorem add2_any (b r l:Nat) (a:Option Addr) (c:Nat) (w:World) (hl:l<512) (hb:w.cell? ⟨b,0,none⟩=some (.pointer (some ⟨r,0,none⟩))) (hr:w.cell? ⟨r,0,none⟩=some (.slice a l c)) :
  Calls Tryz.prog 97 #[.pointer (some ⟨b,0,none⟩)] w fun e w'=>e=.returned (I 0)∧w'=w:=by
 have hl':(l:Int)<512:=by omega
 go_enter Tryz.func97,Tryz.ntmps97
 go_wp2_with (go_at_call 98;go_must(refine(room_any _ _ hl').mono ?_;rintro e W1 ⟨rfl,rfl⟩))
 go_ret
 exact⟨rfl,rfl⟩
theorem add3_any (nm sy fn fd on od:ByteArray) (d0 d1 d2 d3 d4 d5 d6 d7 tk:Int) (b g r:Nat) (w:World) (Q:World→Prop) (hb:w.cell? ⟨b,0,none⟩=some (.pointer (some ⟨r,0,none⟩))) (ho:zAc w g 30 #[.string nm,.string sy,I d0,I d1,I d2,I d3,I d4,I d5,I d6,I d7,.string fn,.string fd,.string on,.string od,I tk])
  (h27:Calls Tryz.prog 100 #[.pointer (some ⟨r,0,none⟩),.agg #[.string nm,.string sy,I d0,I d1,I d2,I d3,I d4,I d5,I d6,I d7,.string fn,.string fd,.string on,.string od,I tk]] w fun e w'=>(∃p:Nat,e=.returned (.pointer (some ⟨p,0,none⟩)))∧Q w') :
  Calls Tryz.prog 99 #[.pointer (some ⟨b,0,none⟩),.pointer (some ⟨g,0,none⟩)] w fun e w'=>e=.returned (.tuple #[])∧Q w':=by
 have u0:w.cell? ⟨g,0,none⟩=some (.string nm):=ho.ub.c 0 _ rfl;have u1:w.cell? ⟨g,1,none⟩=some (.string sy):=ho.ub.c 1 _ rfl;have u2:w.cell? ⟨g,2,none⟩=some (I d0):=ho.ub.c 2 _ rfl;have u3:w.cell? ⟨g,3,none⟩=some (I d1):=ho.ub.c 3 _ rfl;have u4:w.cell? ⟨g,4,none⟩=some (I d2):=ho.ub.c 4 _ rfl;have u5:w.cell? ⟨g,5,none⟩=some (I d3):=ho.ub.c 5 _ rfl;have u6:w.cell? ⟨g,6,none⟩=some (I d4):=ho.ub.c 6 _ rfl;have u7:w.cell? ⟨g,7,none⟩=some (I d5):=ho.ub.c 7 _ rfl;have u8:w.cell? ⟨g,8,none⟩=some (I d6):=ho.ub.c 8 _ rfl;have u9:w.cell? ⟨g,9,none⟩=some (I d7):=ho.ub.c 9 _ rfl;have u10:w.cell? ⟨g,10,none⟩=some (.string fn):=ho.ub.c 10 _ rfl;have u11:w.cell? ⟨g,11,none⟩=some (.string fd):=ho.ub.c 11 _ rfl;have u12:w.cell? ⟨g,12,none⟩=some (.string on):=ho.ub.c 12 _ rfl;have u13:w.cell? ⟨g,13,none⟩=some (.string od):=ho.ub.c 13 _ rfl;have u14:w.cell? ⟨g,14,none⟩=some (I tk):=ho.ub.c 14 _ rfl;have H27:=zAb h27;clear h27 ho;go_enter Tryz.func99,Tryz.ntmps99
 go_wp2_with (go_at_call 100;go_must(refine(un H27).mono ?_;rintro e W1 ⟨⟨p,rfl⟩,hq⟩;have HQ:=zAb hq;clear hq hb u0 u1 u2 u3 u4 u5 u6 u7 u8 u9 u10 u11 u12 u13 u14))
 go_end0
 exact⟨rfl,un HQ⟩
end Go.Proofs.YtliadckofhblnaaGreatDoor

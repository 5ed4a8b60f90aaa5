/- A region that draws its order, in which reads come ahead of stores into what they read: the reads are taken first. What they read (S) must stand till store number k has come; what those read that store k does not wait for (S7) must stand throughout. -/
import Derived.Test.YtliadckofhblnaaGreatDoorAdd
import Derived.Test.YtliadckofhblnaaGreatDoorRead
import Derived.Test.YtliadckofhblnaaGreatDoorGcdFirst
import Derived.Test.YtliadckofhblnaaGreatDoorTakeB
import Derived.OrdersHeld
import Derived.Deep.RegionHeld3
import Derived.Test.YtliadckofhblnaaGreatDoorProg
set_option maxHeartbeats 12000000
set_option maxRecDepth 100000
namespace Go.Proofs.YtliadckofhblnaaGreatDoor
open Go.RowKit
def Small (x:Rat):Prop:=x.num.natAbs<10 ^ 600∧x.den<10 ^ 600
noncomputable def zEp (x:Rat):ByteArray:=open Classical in if Small x then sT (decide (x<0)) x.num.natAbs else⟨#[]⟩
noncomputable def zEr (x:Rat):ByteArray:=open Classical in if Small x then tb x.den else⟨#[]⟩
noncomputable def zHa (x:Rat):Int:=open Classical in if Small x then 0 else 7
structure TS (w W:World) (x y z:Value):Prop where
 a:FBox W w.heap.size x y z
 r:T2 W (w.heap.size+1) (G #[]) (G #[])
 below:Below w.heap.size w W
theorem TS.later {w W V:World} {x y z:Value} (s:TS w W x y z) (hb:Below W.heap.size W V):TS w V x y z:=⟨s.a.later hb,s.r.later hb,s.below.trans (hb.mono s.below.size)⟩
theorem TS.first (w:World) (x y z:Value):TS w ((w.alloc (.cells #[x,y,z] 82)).alloc (.cells #[G #[],G #[]] 28)) x y z :=
 ⟨⟨by simp[go_sem],by simp[go_sem],by simp[go_sem],by simp[go_sem],by simp[go_sem],by simp[go_sem]⟩,⟨by simp[go_sem],by simp[go_sem],by simp[go_sem],by simp[go_sem]⟩,bA.alloc (by simp) _⟩
def zBh (W:World) (g:Nat) (x y:Value):World:=(W.setCell ⟨g,0,none⟩ x).setCell ⟨g,1,none⟩ y
theorem T2.store {W:World} {g:Nat} {x y:Value} (h:T2 W g x y) (x' y':Value):T2 (zBh W g x' y') g x' y':=by
 have a1:(W.setCell ⟨g,0,none⟩ x').cell? ⟨g,1,none⟩=some y:=by rw[World.cell?_setCell_other _ _ _ _ (by simp)];exact h.c1
 unfold zBh;refine⟨?_,World.cell?_setCell_same _ _ _ a1,?_,?_⟩
 ·rw[World.cell?_setCell_other _ _ _ _ (by simp)];exact World.cell?_setCell_same _ _ _ h.c0
 ·rw[World.frozen?_setCell,World.frozen?_setCell];exact h.f0
 ·rw[World.frozen?_setCell,World.frozen?_setCell];exact h.f1
theorem zAk {B g:Nat} {w W:World} (h:Below B w W) (hg:B≤g) (x y:Value):Below B w (zBh W g x y) :=
 (h.setCell (p:=⟨g,0,none⟩) hg x).setCell (p:=⟨g,1,none⟩) hg y
theorem tell_ok (v:Value) (b:Bool) (n d k:Nat) (w:World) (h:zCd w v b n d) (hk:k≤1000000) (hnk:n<1000000000 ^ k) (hdk:d<1000000000 ^ k) (hn:n<10 ^ 600) (hd:d<10 ^ 600) (htab:Tab w) :
  Calls Tryz.prog 55 #[v] w fun r w'=>r=.returned (.tuple #[.agg #[.string (sT b n),.string (tb d)],I 0])∧Bw w w':=by
 obtain⟨a1,l1,c1,a2,l2,c2,rfl,h1,h2⟩:=h.form;obtain⟨V,hV⟩:∃V,V=(w.alloc (.cells #[.bool b,.slice a1 l1 c1,.slice a2 l2 c2] 82)).alloc (.cells #[G #[],G #[]] 28):=⟨_,rfl⟩;have HS:Hid (TS w V (.bool b) (.slice a1 l1 c1) (.slice a2 l2 c2)):=by rw[hV];exact TS.first _ _ _ _
 have HV:=zAb hV;have HLN:Hid (∀W,Below V.heap.size V W→Calls Tryz.prog 119 #[.agg #[.slice a1 l1 c1]] W fun e w'=>e=.returned (I (Lib.nDigits n:Nat))∧Bw W w'):=fun W hb=>zGu _ n k W ((h1.later (un HS).below).later hb) hk hnk
 have HLD:Hid (∀W,Below V.heap.size V W→Calls Tryz.prog 119 #[.agg #[.slice a2 l2 c2]] W fun e w'=>e=.returned (I (Lib.nDigits d:Nat))∧Bw W w'):=fun W hb=>zGu _ d k W ((h2.later (un HS).below).later hb) hk hdk
 have HTN:Hid (∀W,Below V.heap.size V W→Calls Tryz.prog 121 #[.agg #[.slice a1 l1 c1]] W fun e w'=>e=.returned (.string (tb n))∧Bw W w'):=fun W hb=>by
  have:=text_any _ n k W ((h1.later (un HS).below).later hb) hk hnk ((htab.later (un HS).below).later hb)
  rwa [show(⟨(Lib.decDigits n).toArray⟩:ByteArray)=tb n from zGb (by rw[zJb n hn])]at this
 have HTD:Hid (∀W,Below V.heap.size V W→Calls Tryz.prog 121 #[.agg #[.slice a2 l2 c2]] W fun e w'=>e=.returned (.string (tb d))∧Bw W w'):=fun W hb=>by
  have:=text_any _ d k W ((h2.later (un HS).below).later hb) hk hdk ((htab.later (un HS).below).later hb)
  rwa [show(⟨(Lib.decDigits d).toArray⟩:ByteArray)=tb d from zGb (by rw[zJb d hd])]at this
 have HSG:Hid (∀W,Calls Tryz.prog 120 #[.bool b,.string (tb n)] W fun e w'=>e=.returned (.string (sT b n))∧w'=W):=fun W=>signed_any b (tb n) W (by have:=(zFd n hn).2;omega)
 have n1:(Lib.nDigits n:Nat)≤600:=(len600 n).2 hn;have n2:(Lib.nDigits d:Nat)≤600:=(len600 d).2 hd;clear h h1 h2 hk hnk hdk hn hd htab;generalize (Lib.nDigits n:Nat)=L1 at *
 generalize (Lib.nDigits d:Nat)=L2 at *
 generalize sT b n=sn at *
 generalize tb n=tn at *
 generalize tb d=td at *
 have HC:Hid (∀w',Below V.heap.size V w'→(w'.cell? ⟨w.heap.size,0,none⟩=some (.bool b)∧w'.cell? ⟨w.heap.size,1,none⟩=some (.slice a1 l1 c1)∧w'.cell? ⟨w.heap.size,2,none⟩=some (.slice a2 l2 c2))∧w'.cell? ⟨w.heap.size+1,0,none⟩=some (G #[])∧w'.cell? ⟨w.heap.size+1,1,none⟩=some (G #[])∧w'.frozen? ⟨w.heap.size+1,0,none⟩=false∧w'.frozen? ⟨w.heap.size+1,1,none⟩=false):=fun U hb=>by
  have s:=(un HS).later hb;exact⟨⟨s.a.c0,s.a.c1,s.a.c2⟩,s.r.c0,s.r.c1,s.r.f0,s.r.f1⟩
 go_enter Tryz.func55,Tryz.ntmps55
 go_upto_region 1 with fail
 rw[←un HV];clear hV HV;obtain⟨⟨t0,t1,t2⟩,_⟩:=un HC V (Below.refl _ _)
 go_upto_region 3 with (first
  | (go_at_call_of 119 (Value.agg #[Value.slice a1 l1 c1]);go_must(refine(un HLN _ (Below.refl _ _)).mono ?_;rintro e w1 ⟨rfl,hb1⟩;have HB1:=zAb hb1;clear hb1 t0 t1 t2;obtain⟨⟨t0,t1,t2⟩,_⟩:=un HC w1 (un HB1)))
  | (go_at_call_of 119 (Value.agg #[Value.slice a2 l2 c2]);go_must(refine(un HLD _ (un HB1)).mono ?_;rintro e w2 ⟨rfl,hb2⟩;have HB2:=zAb (bt HB1 hb2);clear hb2 t0 t1 t2;obtain⟨⟨t0,t1,t2⟩,_⟩:=un HC w2 (un HB2))))
 have HBT:Hid (∀U,Below w2.heap.size w2 U→Below V.heap.size V U):=fun U hb=>bt HB2 hb
 go_region_held3 (fun w'=>w'.cell? ⟨w.heap.size,0,none⟩=some (.bool b)∧w'.cell? ⟨w.heap.size,1,none⟩=some (.slice a1 l1 c1)∧w'.cell? ⟨w.heap.size,2,none⟩=some (.slice a2 l2 c2)) (first|assumption|(refine⟨?_,?_,?_⟩<;>first|assumption|(simp[go_sem, *];done))|(simp[go_sem, *];done)) ((first
  | (go_at_call_of 121 (Value.agg #[Value.slice a1 l1 c1]);go_must(refine(un HTN _ (un HBT _ ((Below.refl _ _).drew))).mono ?_;rintro e w3 ⟨rfl,hb3⟩;have HB3:=zAb (((Below.refl w2.heap.size w2).drew).trans hb3);clear hb3 t0 t1 t2;obtain⟨⟨t0,t1,t2⟩,_⟩:=un HC w3 (un HBT _ (un HB3))))
  | (go_at_call 120;go_must(refine(un HSG _).mono ?_;rintro e w4 ⟨rfl,hw4⟩;obtain rfl:w3=w4:=hw4.symm))
  | (go_at_call_of 121 (Value.agg #[Value.slice a2 l2 c2]);go_must(refine(un HTD _ (un HBT _ (un HB3))).mono ?_;rintro e w5 ⟨rfl,hb5⟩;have HB5:=zAb (bt HB3 hb5);clear hb5 t0 t1 t2;obtain⟨⟨t0,t1,t2⟩,r0,r1,rf0,rf1⟩:=un HC w5 (un HBT _ (un HB5))))))
 have HS5:=zAb ((un HS).later (un HBT _ (un HB5)));clear r0 r1 rf0 rf1 t0 t1 t2;have hS:=(un HS5).r.store (.string sn) (.string td);have hb:Below w.heap.size w (zBh w5 (w.heap.size+1) (.string sn) (.string td)):=zAk (un HS5).below (by omega) _ _;obtain⟨V9,hV9⟩:∃V9,V9=zBh w5 (w.heap.size+1) (.string sn) (.string td):=⟨_,rfl⟩;have hV9':V9=(w5.setCell ⟨w.heap.size+1,0,none⟩ (.string sn)).setCell ⟨w.heap.size+1,1,none⟩ (.string td):=hV9;have u0:=hS.c0;have u1:=hS.c1;rw[←hV9]at u0 u1 hb;rw[←hV9'];have HB9:=zAb hb;clear hV9 hV9' hS hb
 go_wp2_with fail
 exact bodyPost_ret (v:=.tuple #[.agg #[.string sn,.string td],I 0]) (by simp[results,Tryz.results55,go_sem,u0,u1]) rfl ⟨rfl,un HB9⟩
theorem tell_large (v:Value) (b:Bool) (n d k:Nat) (w:World) (h:zCd w v b n d) (hk:k≤1000000) (hnk:n<1000000000 ^ k) (hdk:d<1000000000 ^ k) (hl:¬(n<10 ^ 600∧d<10 ^ 600)) :
  Calls Tryz.prog 55 #[v] w fun r w'=>r=.returned (.tuple #[.agg #[G #[],G #[]],I 7])∧Bw w w':=by
 obtain⟨a1,l1,c1,a2,l2,c2,rfl,h1,h2⟩:=h.form;obtain⟨V,hV⟩:∃V,V=(w.alloc (.cells #[.bool b,.slice a1 l1 c1,.slice a2 l2 c2] 82)).alloc (.cells #[G #[],G #[]] 28):=⟨_,rfl⟩;have HS:Hid (TS w V (.bool b) (.slice a1 l1 c1) (.slice a2 l2 c2)):=by rw[hV];exact TS.first _ _ _ _
 have HV:=zAb hV;have HLN:Hid (∀W,Below V.heap.size V W→Calls Tryz.prog 119 #[.agg #[.slice a1 l1 c1]] W fun e w'=>e=.returned (I (Lib.nDigits n:Nat))∧Bw W w'):=fun W hb=>zGu _ n k W ((h1.later (un HS).below).later hb) hk hnk
 have HLD:Hid (∀W,Below V.heap.size V W→Calls Tryz.prog 119 #[.agg #[.slice a2 l2 c2]] W fun e w'=>e=.returned (I (Lib.nDigits d:Nat))∧Bw W w'):=fun W hb=>zGu _ d k W ((h2.later (un HS).below).later hb) hk hdk
 have hl':¬((Lib.nDigits n:Nat)≤600∧(Lib.nDigits d:Nat)≤600):=fun h=>hl ⟨(len600 n).1 h.1,(len600 d).1 h.2⟩
 clear h h1 h2 hk hnk hdk hl;generalize (Lib.nDigits n:Nat)=L1 at *
 generalize (Lib.nDigits d:Nat)=L2 at *
 have HC:Hid (∀w',Below V.heap.size V w'→(w'.cell? ⟨w.heap.size,0,none⟩=some (.bool b)∧w'.cell? ⟨w.heap.size,1,none⟩=some (.slice a1 l1 c1)∧w'.cell? ⟨w.heap.size,2,none⟩=some (.slice a2 l2 c2))∧w'.cell? ⟨w.heap.size+1,0,none⟩=some (G #[])∧w'.cell? ⟨w.heap.size+1,1,none⟩=some (G #[])∧w'.frozen? ⟨w.heap.size+1,0,none⟩=false∧w'.frozen? ⟨w.heap.size+1,1,none⟩=false):=fun U hb=>by
  have s:=(un HS).later hb;exact⟨⟨s.a.c0,s.a.c1,s.a.c2⟩,s.r.c0,s.r.c1,s.r.f0,s.r.f1⟩
 go_enter Tryz.func55,Tryz.ntmps55
 go_upto_region 1 with fail
 rw[←un HV];clear hV HV;obtain⟨⟨t0,t1,t2⟩,_⟩:=un HC V (Below.refl _ _)
 by_cases hq:L1≤600
 ·have hq2:¬L2≤600:=fun h=>hl' ⟨hq,h⟩
  clear hl'
  go_wp2_with (first
   | (go_at_call_of 119 (Value.agg #[Value.slice a1 l1 c1]);go_must(refine(un HLN _ (Below.refl _ _)).mono ?_;rintro e w1 ⟨rfl,hb1⟩;have HB1:=zAb hb1;clear hb1 t0 t1 t2;obtain⟨⟨t0,t1,t2⟩,_⟩:=un HC w1 (un HB1)))
   | (go_at_call_of 119 (Value.agg #[Value.slice a2 l2 c2]);go_must(refine(un HLD _ (un HB1)).mono ?_;rintro e w2 ⟨rfl,hb2⟩;have HB2:=zAb (bt HB1 hb2);clear hb2 t0 t1 t2;obtain⟨⟨t0,t1,t2⟩,r0,r1,rf0,rf1⟩:=un HC w2 (un HB2))))
  have HS5:=zAb ((un HS).later (un HB2));have hS:=(un HS5).r.store (G #[]) (G #[]);have hb:Below w.heap.size w (zBh w2 (w.heap.size+1) (G #[]) (G #[])):=zAk (un HS5).below (by omega) _ _;have u0:=hS.c0;have u1:=hS.c1;exact bodyPost_ret (v:=.tuple #[.agg #[G #[],G #[]],I 7]) (w:=zBh w2 (w.heap.size+1) (G #[]) (G #[])) (by simp[results,Tryz.results55,go_sem,u0,u1]) rfl ⟨rfl,hb⟩
 ·clear hl'
  go_wp2_with (go_at_call_of 119 (Value.agg #[Value.slice a1 l1 c1]);go_must(refine(un HLN _ (Below.refl _ _)).mono ?_;rintro e w2 ⟨rfl,hb1⟩;have HB2:=zAb hb1;clear hb1 t0 t1 t2;obtain⟨⟨t0,t1,t2⟩,r0,r1,rf0,rf1⟩:=un HC w2 (un HB2)))
  have HS5:=zAb ((un HS).later (un HB2));have hS:=(un HS5).r.store (G #[]) (G #[]);have hb:Below w.heap.size w (zBh w2 (w.heap.size+1) (G #[]) (G #[])):=zAk (un HS5).below (by omega) _ _;have u0:=hS.c0;have u1:=hS.c1;exact bodyPost_ret (v:=.tuple #[.agg #[G #[],G #[]],I 7]) (w:=zBh w2 (w.heap.size+1) (G #[]) (G #[])) (by simp[results,Tryz.results55,go_sem,u0,u1]) rfl ⟨rfl,hb⟩
theorem qtell (v:Value) (x:Rat) (k:Nat) (w:World) (h:QOf w v x k) (hk:k≤1000000) (htab:Tab w) :
  Calls Tryz.prog 55 #[v] w fun r w'=>r=.returned (.tuple #[.agg #[.string (zEp x),.string (zEr x)],I (zHa x)])∧Bw w w':=by
 obtain⟨b,n,d,h1,h2,rfl,h4,h5⟩:=h;obtain⟨e1,e2,e3⟩:=Cub.low_is h2
 by_cases hs:Small (Cub.valQ b n d)
 ·have hn:n<10 ^ 600:=by rw[e2];exact hs.1
  have hd:d<10 ^ 600:=by rw[e3];exact hs.2
  have:=tell_ok v b n d k w h1 hk h4 h5 hn hd htab;unfold zEp zEr zHa;rw[if_pos hs,if_pos hs,if_pos hs,←e1,←e2,←e3];exact this
 ·have:=tell_large v b n d k w h1 hk h4 h5 (fun h=>hs ⟨by rw[←e2];exact h.1,by rw[←e3];exact h.2⟩)
  unfold zEp zEr zHa;rw[if_neg hs,if_neg hs,if_neg hs];exact this
def IsR (num den:ByteArray) (x:Rat):Prop:=Small x∧num=zEp x∧den=zEr x
theorem IsR.rt {num den:ByteArray} {x:Rat} (h:IsR num den x):RT num den (decide (x<0)) x.num.natAbs x.den:=by
 obtain⟨hs,rfl,rfl⟩:=h;unfold zEp zEr;rw[if_pos hs,if_pos hs];exact⟨rfl,rfl,hs.1,hs.2,(Cub.low_of x).1⟩
theorem numT_of {x:Rat} (h:Small x):IsR (zEp x) (zEr x) x:=⟨h,rfl,rfl⟩
theorem qread (num den:ByteArray) (x:Rat) (w:World) (h:IsR num den x) :
  Calls Tryz.prog 118 #[.agg #[.string num,.string den]] w fun r w'=>∃v,r=.returned (.tuple #[v,.bool true])∧QOf w' v x 67∧Bw w w':=by
 have r:=h.rt;have:=read_ok num den _ _ _ w r.num r.den r.hn r.hd r.low.sign (by have:=r.low.pos;omega) r.low.cop
 rwa [(Cub.low_of x).2]at this
structure W2 (w W:World) (x y z t p0 p1 p2 q0 q1 q2:Value):Prop where
 a:T2 W w.heap.size x y
 b:T2 W (w.heap.size+1) z t
 p:FBox W (w.heap.size+1+1) p0 p1 p2
 q:FBox W (w.heap.size+1+1+1) q0 q1 q2
 below:Below w.heap.size w W
theorem W2.later {w W V:World} {x y z t p0 p1 p2 q0 q1 q2:Value} (s:W2 w W x y z t p0 p1 p2 q0 q1 q2) (hb:Below W.heap.size W V):W2 w V x y z t p0 p1 p2 q0 q1 q2 :=
 ⟨s.a.later hb,s.b.later hb,s.p.later hb,s.q.later hb,s.below.trans (hb.mono s.below.size)⟩
theorem W2.first (w:World) (x y z t:Value):W2 w ((((w.alloc (.cells #[x,y] 28)).alloc (.cells #[z,t] 28)).alloc (.cells #[.bool false,.slice none 0 0,.slice none 0 0] 82)).alloc (.cells #[.bool false,.slice none 0 0,.slice none 0 0] 82)) x y z t (.bool false) (.slice none 0 0) (.slice none 0 0) (.bool false) (.slice none 0 0) (.slice none 0 0) :=
 ⟨⟨by simp[go_sem],by simp[go_sem],by simp[go_sem],by simp[go_sem]⟩,⟨by simp[go_sem],by simp[go_sem],by simp[go_sem],by simp[go_sem]⟩,⟨by simp[go_sem],by simp[go_sem],by simp[go_sem],by simp[go_sem],by simp[go_sem],by simp[go_sem]⟩,⟨by simp[go_sem],by simp[go_sem],by simp[go_sem],by simp[go_sem],by simp[go_sem],by simp[go_sem]⟩,
  ((bA.alloc (by simp) _).alloc (by simp;omega) _).alloc (by simp;omega) _⟩
theorem FBox.other3 {W:World} {g k:Nat} {x y z:Value} (h:FBox W g x y z) (hk:g≠k) (u v s:Value):FBox (zAs W k u v s) g x y z:=((h.otherAt hk u).otherAt hk v).otherAt hk s
theorem T2.other3 {W:World} {g k:Nat} {x y:Value} (h:T2 W g x y) (hk:g≠k) (u v s:Value):T2 (zAs W k u v s) g x y:=((h.otherAt hk u).otherAt hk v).otherAt hk s
theorem W2.setP {w W:World} {x y z t p0 p1 p2 q0 q1 q2:Value} (s:W2 w W x y z t p0 p1 p2 q0 q1 q2) (u v r:Value):W2 w (zAs W (w.heap.size+1+1) u v r) x y z t u v r q0 q1 q2 :=
 ⟨s.a.other3 (by omega) _ _ _,s.b.other3 (by omega) _ _ _,s.p.store _ _ _,s.q.other3 (by omega) _ _ _,zAq s.below (by omega) _ _ _⟩
theorem W2.setQ {w W:World} {x y z t p0 p1 p2 q0 q1 q2:Value} (s:W2 w W x y z t p0 p1 p2 q0 q1 q2) (u v r:Value):W2 w (zAs W (w.heap.size+1+1+1) u v r) x y z t p0 p1 p2 u v r :=
 ⟨s.a.other3 (by omega) _ _ _,s.b.other3 (by omega) _ _ _,s.p.other3 (by omega) _ _ _,s.q.store _ _ _,zAq s.below (by omega) _ _ _⟩
theorem QOf.over {W:World} {g:Nat} {b:Bool} {a1 a2:Option Addr} {l1 c1 l2 c2:Nat} (h:FBox W g (.bool b) (.slice a1 l1 c1) (.slice a2 l2 c2)) (u v r:Value) {vv:Value} {x:Rat} {k:Nat}
  (hv:QOf W vv x k):QOf (zAs W g u v r) vv x k:=by
 obtain⟨b0,n,d,⟨s,t,e,h1,h1'⟩,h2⟩:=hv;exact⟨b0,n,d,⟨s,t,e,h.big _ _ _ h1,h.big _ _ _ h1'⟩,h2⟩
theorem readTwo_ok (n1 d1 n2 d2:ByteArray) (x y:Rat) (w:World) (h1:IsR n1 d1 x) (h2:IsR n2 d2 y) :
  Calls Tryz.prog 67 #[.agg #[.string n1,.string d1],.agg #[.string n2,.string d2]] w fun r w'=>∃v u,r=.returned (.tuple #[v,u,I 0])∧QOf w' v x 67∧QOf w' u y 67∧Bw w w':=by
 obtain⟨V,hV⟩:∃V,V=((((w.alloc (.cells #[.string n1,.string d1] 28)).alloc (.cells #[.string n2,.string d2] 28)).alloc (.cells #[.bool false,.slice none 0 0,.slice none 0 0] 82)).alloc (.cells #[.bool false,.slice none 0 0,.slice none 0 0] 82)):=⟨_,rfl⟩;have HS:Hid (W2 w V (.string n1) (.string d1) (.string n2) (.string d2) (.bool false) (.slice none 0 0) (.slice none 0 0) (.bool false) (.slice none 0 0) (.slice none 0 0)):=by rw[hV];exact W2.first _ _ _ _ _
 have HV:=zAb hV;have HR1:=zAb (fun W=>qread n1 d1 x W h1);have HR2:=zAb (fun W=>qread n2 d2 y W h2);clear h1 h2;go_enter Tryz.func67,Tryz.ntmps67
 go_upto_region 1 with fail
 rw[←un HV];clear hV HV;have t0:=(un HS).a.c0;have t1:=(un HS).a.c1
 go_upto_region 2 with (go_at_call 118;go_must(refine(un HR1 _).mono ?_;rintro e w1 ⟨v1,rfl,hv1,hb1⟩;obtain⟨b1,i1,i2,i3,i4,i5,i6,rfl⟩:=hv1.form;have HS1:=zAb ((un HS).later hb1);have HV1:=zAb hv1;clear hv1 hb1 t0 t1;have r0:=(un HS1).p.c0;have r1:=(un HS1).p.c1;have r2:=(un HS1).p.c2;have rf0:=(un HS1).p.f0;have rf1:=(un HS1).p.f1;have rf2:=(un HS1).p.f2))
 obtain⟨V2,hV2⟩:∃V2,V2=zAs w1 (w.heap.size+1+1) (.bool b1) (.slice i1 i2 i3) (.slice i4 i5 i6):=⟨_,rfl⟩;have hV2':V2=((w1.setCell ⟨w.heap.size+1+1,0,none⟩ (.bool b1)).setCell ⟨w.heap.size+1+1,1,none⟩ (.slice i1 i2 i3)).setCell ⟨w.heap.size+1+1,2,none⟩ (.slice i4 i5 i6):=hV2;have HS2:=zAb ((un HS1).setP (.bool b1) (.slice i1 i2 i3) (.slice i4 i5 i6));have HV2:=zAb ((un HV1).stored (un HS1).p);rw[←hV2]at HS2 HV2;rw[←hV2'];clear hV2 hV2' HS HS1 HV1 r0 r1 r2 rf0 rf1 rf2;have t0:=(un HS2).b.c0;have t1:=(un HS2).b.c1
 go_upto_region 3 with (go_at_call 118;go_must(refine(un HR2 _).mono ?_;rintro e w3 ⟨v3,rfl,hv3,hb3⟩;obtain⟨b3,j1,j2,j3,j4,j5,j6,rfl⟩:=hv3.form;have HS3:=zAb ((un HS2).later hb3);have HV3:=zAb hv3;have HU3:=zAb ((un HV2).later hb3);clear hv3 hb3 t0 t1;have r0:=(un HS3).q.c0;have r1:=(un HS3).q.c1;have r2:=(un HS3).q.c2;have rf0:=(un HS3).q.f0;have rf1:=(un HS3).q.f1;have rf2:=(un HS3).q.f2))
 obtain⟨V4,hV4⟩:∃V4,V4=zAs w3 (w.heap.size+1+1+1) (.bool b3) (.slice j1 j2 j3) (.slice j4 j5 j6):=⟨_,rfl⟩;have hV4':V4=((w3.setCell ⟨w.heap.size+1+1+1,0,none⟩ (.bool b3)).setCell ⟨w.heap.size+1+1+1,1,none⟩ (.slice j1 j2 j3)).setCell ⟨w.heap.size+1+1+1,2,none⟩ (.slice j4 j5 j6):=hV4;have HS4:=zAb ((un HS3).setQ (.bool b3) (.slice j1 j2 j3) (.slice j4 j5 j6));have HV4:=zAb ((un HV3).stored (un HS3).q);have HU4:=zAb (QOf.over (un HS3).q (.bool b3) (.slice j1 j2 j3) (.slice j4 j5 j6) (un HU3));rw[←hV4]at HS4 HV4 HU4;rw[←hV4'];clear hV4 hV4' HS2 HV2 HS3 HV3 HU3 r0 r1 r2 rf0 rf1 rf2
 go_upto_region 5 with fail
 have r0:=(un HS4).p.c0;have r1:=(un HS4).p.c1;have r2:=(un HS4).p.c2;have rf0:=(un HS4).p.f0;have rf1:=(un HS4).p.f1;have rf2:=(un HS4).p.f2;have s0:=(un HS4).q.c0;have s1:=(un HS4).q.c1;have s2:=(un HS4).q.c2;have sf0:=(un HS4).q.f0;have sf1:=(un HS4).q.f1;have sf2:=(un HS4).q.f2
 go_region
 obtain⟨V5,hV5⟩:∃V5,V5=(zAs (zAs V4 (w.heap.size+1+1) (.bool b1) (.slice i1 i2 i3) (.slice i4 i5 i6)) (w.heap.size+1+1+1) (.bool b3) (.slice j1 j2 j3) (.slice j4 j5 j6)).drew:=⟨_,rfl⟩;have hV5':V5=((((((V4.setCell ⟨w.heap.size+1+1,0,none⟩ (.bool b1)).setCell ⟨w.heap.size+1+1,1,none⟩ (.slice i1 i2 i3)).setCell ⟨w.heap.size+1+1,2,none⟩ (.slice i4 i5 i6)).setCell ⟨w.heap.size+1+1+1,0,none⟩ (.bool b3)).setCell ⟨w.heap.size+1+1+1,1,none⟩ (.slice j1 j2 j3)).setCell ⟨w.heap.size+1+1+1,2,none⟩ (.slice j4 j5 j6)).drew:=hV5;have hm:=(un HS4).setP (.bool b1) (.slice i1 i2 i3) (.slice i4 i5 i6);have HS5:=zAb ((hm.setQ (.bool b3) (.slice j1 j2 j3) (.slice j4 j5 j6)).later ((Below.refl _ _).drew));have HV5:=zAb ((QOf.over hm.q (.bool b3) (.slice j1 j2 j3) (.slice j4 j5 j6) (QOf.over (un HS4).p (.bool b1) (.slice i1 i2 i3) (.slice i4 i5 i6) (un HV4))).later ((Below.refl _ _).drew));have HU5:=zAb ((QOf.over hm.q (.bool b3) (.slice j1 j2 j3) (.slice j4 j5 j6) (QOf.over (un HS4).p (.bool b1) (.slice i1 i2 i3) (.slice i4 i5 i6) (un HU4))).later ((Below.refl _ _).drew));rw[←hV5]at HS5 HV5 HU5;rw[←hV5'];clear hV5 hV5' hm HS4 HV4 HU4 r0 r1 r2 rf0 rf1 rf2 s0 s1 s2 sf0 sf1 sf2;have r0:=(un HS5).p.c0;have r1:=(un HS5).p.c1;have r2:=(un HS5).p.c2;have s0:=(un HS5).q.c0;have s1:=(un HS5).q.c1;have s2:=(un HS5).q.c2
 go_wp2_with fail
 exact bodyPost_ret (v:=.tuple #[.agg #[.bool b1,.slice i1 i2 i3,.slice i4 i5 i6],.agg #[.bool b3,.slice j1 j2 j3,.slice j4 j5 j6],I 0]) (by simp[results,Tryz.results67,go_sem,r0,r1,r2,s0,s1,s2]) rfl ⟨_,_,rfl,un HU5,un HV5,(un HS5).below⟩
structure O3 (w W:World) (x y z t:Value):Prop where
 a:T2 W w.heap.size x y
 b:T2 W (w.heap.size+1) z t
 r:T2 W (w.heap.size+1+1) (G #[]) (G #[])
 below:Below w.heap.size w W
theorem O3.later {w W V:World} {x y z t:Value} (s:O3 w W x y z t) (hb:Below W.heap.size W V):O3 w V x y z t :=
 ⟨s.a.later hb,s.b.later hb,s.r.later hb,s.below.trans (hb.mono s.below.size)⟩
theorem O3.first (w:World) (x y z t:Value):O3 w (((w.alloc (.cells #[x,y] 28)).alloc (.cells #[z,t] 28)).alloc (.cells #[G #[],G #[]] 28)) x y z t :=
 ⟨⟨by simp[go_sem],by simp[go_sem],by simp[go_sem],by simp[go_sem]⟩,⟨by simp[go_sem],by simp[go_sem],by simp[go_sem],by simp[go_sem]⟩,⟨by simp[go_sem],by simp[go_sem],by simp[go_sem],by simp[go_sem]⟩,
  (bA.alloc (by simp) _).alloc (by simp;omega) _⟩
def Ans (f:Nat) (args:Array Value) (w:World) (s t:ByteArray) (e:Int):Prop :=
 Calls Tryz.prog f args w fun r w'=>r=.returned (.tuple #[.agg #[.string s,.string t],I e])∧Bw w w'
theorem qmul (x y:Value) (p q:Rat) (k:Nat) (w:World) (hx:QOf w x p k) (hy:QOf w y q k) (hk:k+k≤100000) :
  Calls Tryz.prog 65 #[x,y] w fun r w'=>∃v,r=.returned v∧QOf w' v (p*q) (k+k)∧Bw w w':=by
 obtain⟨b,a1,l1,c1,a2,l2,c2,rfl⟩:=hx.form;obtain⟨c,a3,l3,c3,a4,l4,c4,rfl⟩:=hy.form;obtain⟨V,hV⟩:∃V,V=(((w.alloc (.cells #[.bool b,.slice a1 l1 c1,.slice a2 l2 c2] 82)).alloc (.cells #[.bool c,.slice a3 l3 c3,.slice a4 l4 c4] 82)).alloc (.cells #[.bool false,.slice none 0 0,.slice none 0 0] 82)):=⟨_,rfl⟩;have HS:Hid (AS w V (.bool b) (.slice a1 l1 c1) (.slice a2 l2 c2) (.bool c) (.slice a3 l3 c3) (.slice a4 l4 c4) []):=by rw[hV];exact AS.first _ _ _ _ _ _ _
 have HX:=zAb (hx.later (un HS).below);have HY:=zAb (hy.later (un HS).below);have HV:=zAb hV;have HK:=zAb hk
 have HT:Hid (Calls Tryz.prog 147 #[.slice (some ⟨V.heap.size,0,none⟩) 2 2] (V.alloc (.cells #[.bool b,.slice a1 l1 c1,.slice a2 l2 c2,.bool c,.slice a3 l3 c3,.slice a4 l4 c4] 82)) fun r w'=>∃v,r=.returned v∧QOf w' v (p*q) (k+k)∧Bw V w'):=by
  have hb:Below V.heap.size V (V.alloc (.cells #[.bool b,.slice a1 l1 c1,.slice a2 l2 c2,.bool c,.slice a3 l3 c3,.slice a4 l4 c4] 82)):=bA;refine(qtimes V.heap.size b c a1 a2 a3 a4 l1 c1 l2 c2 l3 c3 l4 c4 p q k _ (by simp[go_sem]) (by simp[go_sem]) (by simp[go_sem]) (by simp[go_sem]) (by simp[go_sem]) (by simp[go_sem]) ((un HX).later hb) ((un HY).later hb) hk).mono ?_;rintro r w' ⟨v,rfl,hv,hb'⟩;exact⟨v,rfl,hv,hb.trans (hb'.mono hb.size)⟩
 clear hx hy hk hV;go_enter Tryz.func65,Tryz.ntmps65
 go_upto_region 1 with fail
 rw[←un HV];clear HV;have t0:=(un HS).x.c0;have t1:=(un HS).x.c1;have t2:=(un HS).x.c2;have t3:=(un HS).y.c0;have t4:=(un HS).y.c1;have t5:=(un HS).y.c2
 go_wp2_with (go_at_call 147;go_must(refine(un HT).mono ?_;rintro e w1 ⟨v1,rfl,hv1,hb1⟩;obtain⟨b1,i1,i2,i3,i4,i5,i6,rfl⟩:=hv1.form;have HS1:=zAb ((un HS).later hb1);have HV1:=zAb hv1;clear hv1 hb1 t0 t1 t2 t3 t4 t5;have r0:=(un HS1).r.c0;have r1:=(un HS1).r.c1;have r2:=(un HS1).r.c2;have rf0:=(un HS1).r.f0;have rf1:=(un HS1).r.f1;have rf2:=(un HS1).r.f2))
 have hS:=(un HS1).r.store (.bool b1) (.slice i1 i2 i3) (.slice i4 i5 i6);have hb:Below w.heap.size w (zAs w1 (w.heap.size+1+1) (.bool b1) (.slice i1 i2 i3) (.slice i4 i5 i6)):=zAq (un HS1).below (by omega) _ _ _;have u0:=hS.c0;have u1:=hS.c1;have u2:=hS.c2;exact bodyPost_ret (v:=.agg #[.bool b1,.slice i1 i2 i3,.slice i4 i5 i6]) (w:=zAs w1 (w.heap.size+1+1) (.bool b1) (.slice i1 i2 i3) (.slice i4 i5 i6)) (by simp[results,Tryz.results65,go_sem,u0,u1,u2]) rfl ⟨_,rfl,(un HV1).stored (un HS1).r,hb⟩
theorem ofTwo95_ok (n1 d1 n2 d2:ByteArray) (x y:Rat) (w:World) (h1:IsR n1 d1 x) (h2:IsR n2 d2 y) (htab:Tab w):Ans 64 #[.agg #[.string n1,.string d1],.agg #[.string n2,.string d2],.func (Fn.func 65) #[] #[]] w (zEp (x*y)) (zEr (x*y)) (zHa (x*y)):=by
 unfold Ans;obtain⟨V,hV⟩:∃V,V=((w.alloc (.cells #[.string n1,.string d1] 28)).alloc (.cells #[.string n2,.string d2] 28)).alloc (.cells #[G #[],G #[]] 28):=⟨_,rfl⟩;have HS:Hid (O3 w V (.string n1) (.string d1) (.string n2) (.string d2)):=by rw[hV];exact O3.first _ _ _ _ _
 have HV:=zAb hV;have HR:=zAb (readTwo_ok n1 d1 n2 d2 x y V h1 h2);have HT:=zAb (htab.later (un HS).below);clear h1 h2 htab;go_enter Tryz.func64,Tryz.ntmps64
 go_upto_region 1 with fail
 rw[←un HV];clear hV HV;have t0:=(un HS).a.c0;have t1:=(un HS).a.c1;have t2:=(un HS).b.c0;have t3:=(un HS).b.c1
 go_upto_region 2 with (go_at_call 67;go_must(refine(un HR).mono ?_;rintro e w1 ⟨v1,v2,rfl,hv1,hv2,hb1⟩;obtain⟨b1,i1,i2,i3,i4,i5,i6,rfl⟩:=hv1.form;obtain⟨b2,j1,j2,j3,j4,j5,j6,rfl⟩:=hv2.form;have HS1:=zAb ((un HS).later hb1);have HV1:=zAb hv1;have HV2:=zAb hv2;have HT1:=zAb ((un HT).later hb1);clear hv1 hv2 hb1 t0 t1 t2 t3))
 obtain⟨V2,hV2⟩:∃V2,V2=(w1.alloc (.cells #[.bool b1,.slice i1 i2 i3,.slice i4 i5 i6] 82)).alloc (.cells #[.bool b2,.slice j1 j2 j3,.slice j4 j5 j6] 82):=⟨_,rfl⟩;have hb:Below w1.heap.size w1 V2:=by rw[hV2];exact bA.alloc (by simp) _
 have HS2:=zAb ((un HS1).later hb);have HX:=zAb ((un HV1).later hb);have HY:=zAb ((un HV2).later hb);have HT2:=zAb ((un HT1).later hb);have HP:Hid (FBox V2 w1.heap.size (.bool b1) (.slice i1 i2 i3) (.slice i4 i5 i6)):=by rw[hV2];exact(FBox.new _ _ _ _).later bA
 have HQ:Hid (FBox V2 (w1.heap.size+1) (.bool b2) (.slice j1 j2 j3) (.slice j4 j5 j6)):=by
  rw[hV2];have:=FBox.new (w1.alloc (.cells #[.bool b1,.slice i1 i2 i3,.slice i4 i5 i6] 82)) (.bool b2) (.slice j1 j2 j3) (.slice j4 j5 j6)
  rwa [show(w1.alloc (.cells #[.bool b1,.slice i1 i2 i3,.slice i4 i5 i6] 82)).heap.size=w1.heap.size+1 by simp]at this
 rw[←hV2];clear hV2 hb HS HS1 HV1 HV2 HT HT1 HR;generalize w1.heap.size=g8 at *
 have t0:=(un HP).c0;have t1:=(un HP).c1;have t2:=(un HP).c2;have t3:=(un HQ).c0;have t4:=(un HQ).c1;have t5:=(un HQ).c2
 go_wp2_with (first
  | (go_at_call 65;go_must(refine(qmul _ _ x y 67 _ (un HX) (un HY) (by decide)).mono ?_;rintro e w3 ⟨v3,rfl,hv3,hb3⟩;have HV3:=zAb hv3;have HS3:=zAb ((un HS2).later hb3);have HT3:=zAb ((un HT2).later hb3);clear hv3 hb3 t0 t1 t2 t3 t4 t5))
  | (go_at_call 55;go_must(refine(qtell _ _ (67+67) _ (un HV3) (by decide) (un HT3)).mono ?_;rintro e w4 ⟨rfl,hb4⟩;have HS4:=zAb ((un HS3).later hb4);clear hb4;have r0:=(un HS4).r.c0;have r1:=(un HS4).r.c1;have rf0:=(un HS4).r.f0;have rf1:=(un HS4).r.f1)))
 have hS:=(un HS4).r.store (.string (zEp (x*y))) (.string (zEr (x*y)));have hb:Below w.heap.size w (zBh w4 (w.heap.size+1+1) (.string (zEp (x*y))) (.string (zEr (x*y)))):=zAk (un HS4).below (by omega) _ _;have u0:=hS.c0;have u1:=hS.c1;exact bodyPost_ret (v:=.tuple #[.agg #[.string (zEp (x*y)),.string (zEr (x*y))],I (zHa (x*y))]) (w:=zBh w4 (w.heap.size+1+1) (.string (zEp (x*y))) (.string (zEr (x*y)))) (by simp[results,Tryz.results64,go_sem,u0,u1]) rfl ⟨rfl,hb⟩
theorem rmul_of (n1 d1 n2 d2 s t:ByteArray) (e:Int) (w:World) (h:∀W,Below w.heap.size w W→Ans 64 #[.agg #[.string n1,.string d1],.agg #[.string n2,.string d2],.func (Fn.func 65) #[] #[]] W s t e):Ans 28 #[.agg #[.string n1,.string d1],.agg #[.string n2,.string d2]] w s t e:=by
 unfold Ans at *
 obtain⟨V,hV⟩:∃V,V=((w.alloc (.cells #[.string n1,.string d1] 28)).alloc (.cells #[.string n2,.string d2] 28)).alloc (.cells #[G #[],G #[]] 28):=⟨_,rfl⟩;have HS:Hid (O3 w V (.string n1) (.string d1) (.string n2) (.string d2)):=by rw[hV];exact O3.first _ _ _ _ _
 have HV:=zAb hV;have HR:=zAb (h V (un HS).below);clear h;go_enter Tryz.func28,Tryz.ntmps28
 go_upto_region 1 with fail
 rw[←un HV];clear hV HV;have t0:=(un HS).a.c0;have t1:=(un HS).a.c1;have t2:=(un HS).b.c0;have t3:=(un HS).b.c1
 go_wp2_with (go_at_call 64;go_must(refine(un HR).mono ?_;rintro e w4 ⟨rfl,hb4⟩;have HS4:=zAb ((un HS).later hb4);clear hb4 t0 t1 t2 t3;have r0:=(un HS4).r.c0;have r1:=(un HS4).r.c1;have rf0:=(un HS4).r.f0;have rf1:=(un HS4).r.f1))
 have hS:=(un HS4).r.store (.string s) (.string t);have hb:Below w.heap.size w (zBh w4 (w.heap.size+1+1) (.string s) (.string t)):=zAk (un HS4).below (by omega) _ _;have u0:=hS.c0;have u1:=hS.c1;exact bodyPost_ret (v:=.tuple #[.agg #[.string s,.string t],I e]) (w:=zBh w4 (w.heap.size+1+1) (.string s) (.string t)) (by simp[results,Tryz.results28,go_sem,u0,u1]) rfl ⟨rfl,hb⟩
theorem rmul_ok (n1 d1 n2 d2:ByteArray) (x y:Rat) (w:World) (h1:IsR n1 d1 x) (h2:IsR n2 d2 y) (htab:Tab w):Ans 28 #[.agg #[.string n1,.string d1],.agg #[.string n2,.string d2]] w (zEp (x*y)) (zEr (x*y)) (zHa (x*y)) :=
 rmul_of n1 d1 n2 d2 _ _ _ w (fun W hb=>ofTwo95_ok n1 d1 n2 d2 x y W h1 h2 (htab.later hb))
theorem addSigned_any (b c:Bool) (x y:Value) (m n k:Nat) (w:World) (hx:zAf w x m) (hy:zAf w y n) (hk:k≤1000000) (hm:m<1000000000 ^ k) (hn:n<1000000000 ^ k) :
    Calls Tryz.prog 150 #[.bool b,x,.bool c,y] w fun e w'=>∃a l d,e=.returned (.tuple #[.bool (Cub.addSg b m c n).1,.agg #[.slice a l d]])∧zAf w' (.agg #[.slice a l d]) (Cub.addSg b m c n).2∧Bw w w':=by
  have HX:=zAb hx;have HY:=zAb hy;obtain⟨ap,np,cp,rfl⟩:=hx.shape;obtain⟨aq,nq,cq,rfl⟩:=hy.shape;have HADD:=zAb (fun W (h1:zAf W (.agg #[.slice ap np cp]) m) (h2:zAf W (.agg #[.slice aq nq cq]) n)=>bigadd_any _ _ m n k W h1 h2 hk hm hn);have HSUB1:=zAb (fun W (h1:zAf W (.agg #[.slice ap np cp]) m) (h2:zAf W (.agg #[.slice aq nq cq]) n) (h:n≤m)=>sub_any _ _ m n k W h1 h2 hk hm h);have HSUB2:=zAb (fun W (h1:zAf W (.agg #[.slice ap np cp]) m) (h2:zAf W (.agg #[.slice aq nq cq]) n) (h:m≤n)=>sub_any _ _ n m k W h2 h1 hk hn h);have HCMP:=zAb (fun W (h1:zAf W (.agg #[.slice ap np cp]) m) (h2:zAf W (.agg #[.slice aq nq cq]) n)=>cmp_any _ _ m n W h1 h2);have HS0:=zAb (A3St.first w (.slice ap np cp) (.slice aq nq cq) (.slice none 0 0));have HX0:=zAb ((un HX).later (un HS0).below);have HY0:=zAb ((un HY).later (un HS0).below);clear hx hy hk hm hn HX HY
  by_cases hbc:b=c
  · have HV:Hid (Cub.addSg b m c n=(b,m+n)):=if_pos hbc
    have e:(b == c)=true:=by rw[hbc];simp
    rw[un HV];clear HV;subst hbc;go_enter Tryz.func150,Tryz.ntmps150
    go_wp2_with (go_at_call 215;go_must(refine(un HADD _ (un HX0) (un HY0)).mono ?_;rintro e w1 ⟨v1,rfl,hv1,hb1⟩;obtain⟨a1,l1,c1,rfl⟩:=hv1.shape;have HS1:=zAb ((un HS0).later hb1);have HV1:=zAb hv1;clear hv1 hb1;have b3:=(un HS1).b3.c;have f3:=(un HS1).b3.f))
    refine bodyPost_ret (v:=.tuple #[.bool b,.agg #[.slice a1 l1 c1]]) (by simp[results,Tryz.results150,go_sem,b3]) rfl ⟨_,_,_,rfl,?_,?_⟩
    · exact(un HV1).box _ b3 (zAp _ _ _)
    · exact((un HS1).set3 _).below
  · have hbn:(b == c)=false:=by simpa using hbc
    by_cases hlt:m<n
    · have HV:Hid (Cub.addSg b m c n=(c,n - m)):=by show _=_;unfold Cub.addSg;rw[if_neg hbc,if_pos hlt]
      rw[un HV];have hcm:Cub.cmpN m n=-1:=if_pos hlt;rw[hcm]at HCMP;have HLE:Hid (m≤n):=by show m≤n;omega
      clear HV hlt hbc hcm;go_enter Tryz.func150,Tryz.ntmps150
      go_wp2_with (first
        | (go_at_call 207;go_must(refine(un HCMP _ (un HX0) (un HY0)).mono ?_;rintro e w0 ⟨rfl,hb0⟩;have HS':=zAb ((un HS0).later hb0);have HX':=zAb ((un HX0).later hb0);have HY':=zAb ((un HY0).later hb0);clear hb0;have b1:=(un HS').b1.c;have b2:=(un HS').b2.c))
        | (go_at_call 216;go_must(refine(un HSUB2 w0 (un HX') (un HY') (un HLE)).mono ?_;rintro e w1 ⟨v1,rfl,hv1,hb1⟩;obtain⟨a1,l1,c1,rfl⟩:=hv1.shape;have HS1:=zAb ((un HS').later hb1);have HV1:=zAb hv1;clear hv1 hb1;have b3:=(un HS1).b3.c;have f3:=(un HS1).b3.f)))
      refine bodyPost_ret (v:=.tuple #[.bool c,.agg #[.slice a1 l1 c1]]) (by simp[results,Tryz.results150,go_sem,b3]) rfl ⟨_,_,_,rfl,?_,?_⟩
      · exact(un HV1).box _ b3 (zAp _ _ _)
      · exact((un HS1).set3 _).below
    · have HV:Hid (Cub.addSg b m c n=(b,m - n)):=by show _=_;unfold Cub.addSg;rw[if_neg hbc,if_neg hlt]
      rw[un HV];have HLE:Hid (n≤m):=by show n≤m;omega
      obtain⟨z,hz⟩:∃z,z=Cub.cmpN m n:=⟨_,rfl⟩;have hz0:¬z<0:=by rw[hz];unfold Cub.cmpN;rw[if_neg hlt];split<;>omega
      rw[←hz]at HCMP;clear HV hlt hbc hz;go_enter Tryz.func150,Tryz.ntmps150
      go_wp2_with (first
        | (go_at_call 207;go_must(refine(un HCMP _ (un HX0) (un HY0)).mono ?_;rintro e w0 ⟨rfl,hb0⟩;have HS':=zAb ((un HS0).later hb0);have HX':=zAb ((un HX0).later hb0);have HY':=zAb ((un HY0).later hb0);clear hb0;have b1:=(un HS').b1.c;have b2:=(un HS').b2.c))
        | (go_at_call 216;go_must(refine(un HSUB1 w0 (un HX') (un HY') (un HLE)).mono ?_;rintro e w1 ⟨v1,rfl,hv1,hb1⟩;obtain⟨a1,l1,c1,rfl⟩:=hv1.shape;have HS1:=zAb ((un HS').later hb1);have HV1:=zAb hv1;clear hv1 hb1;have b3:=(un HS1).b3.c;have f3:=(un HS1).b3.f)))
      refine bodyPost_ret (v:=.tuple #[.bool b,.agg #[.slice a1 l1 c1]]) (by simp[results,Tryz.results150,go_sem,b3]) rfl ⟨_,_,_,rfl,?_,?_⟩
      · exact(un HV1).box _ b3 (zAp _ _ _)
      · exact((un HS1).set3 _).below
theorem fadd_any (x y:Value) (b c:Bool) (n d m e k:Nat) (w:World) (hx:zCd w x b n d) (hy:zCd w y c m e) (h1:Cub.Low b n d) (h2:Cub.Low c m e) (hk:k+k+k≤100000)
    (hn:n<1000000000 ^ k) (hd:d<1000000000 ^ k) (hm:m<1000000000 ^ k) (he:e<1000000000 ^ k) (hD:DivAns (k+k+k)) (hG:GcdAns (k+k+k)) :
    Calls Tryz.prog 66 #[x,y] w fun r w'=>∃v b' n' d',r=.returned v∧zCd w' v b' n' d'∧Cub.Low b' n' d'∧Cub.valQ b' n' d'=Cub.valQ b n d+Cub.valQ c m e∧n'<1000000000 ^ (k+k+k)∧d'<1000000000 ^ (k+k+k)∧Bw w w':=by
  obtain⟨a1,l1,c1,a2,l2,c2,rfl,hx1,hx2⟩:=hx.form;obtain⟨a3,l3,c3,a4,l4,c4,rfl,hy1,hy2⟩:=hy.form;obtain⟨V,hV⟩:∃V,V=(((w.alloc (.cells #[.bool b,.slice a1 l1 c1,.slice a2 l2 c2] 82)).alloc (.cells #[.bool c,.slice a3 l3 c3,.slice a4 l4 c4] 82)).alloc (.cells #[.bool false,.slice none 0 0,.slice none 0 0] 82)):=⟨_,rfl⟩;have HS:Hid (AS w V (.bool b) (.slice a1 l1 c1) (.slice a2 l2 c2) (.bool c) (.slice a3 l3 c3) (.slice a4 l4 c4) []):=by rw[hV];exact AS.first _ _ _ _ _ _ _
  have HX1:=zAb (hx1.later (un HS).below);have HX2:=zAb (hx2.later (un HS).below);have HY1:=zAb (hy1.later (un HS).below);have HY2:=zAb (hy2.later (un HS).below);have HV:=zAb hV;obtain⟨s,hs⟩:∃s,s=Nat.gcd d e:=⟨_,rfl⟩;obtain⟨f,hf⟩:∃f,f=d / s:=⟨_,rfl⟩;obtain⟨g,hg⟩:∃g,g=e / s:=⟨_,rfl⟩;obtain⟨bm,hbm⟩:∃bm,bm=Cub.addSg b (n*g) c (m*f):=⟨_,rfl⟩;have HADD:=zAb (Cub.add_low h1 h2 hs hf hg (show(bm.1,bm.2)=_ from hbm));have hd0:=h1.pos;have he0:=h2.pos;have hs0:0<s:=by rw[hs];exact Nat.gcd_pos_of_pos_left _ hd0
  have hsd:s≤d:=by rw[hs];exact Nat.gcd_le_left _ hd0
  have hfd:f≤d:=by rw[hf];exact Nat.div_le_self _ _
  have hge:g≤e:=by rw[hg];exact Nat.div_le_self _ _
  have hP:(1000000000:Nat) ^ k≤1000000000 ^ (k+k+k):=Nat.pow_le_pow_right (by decide) (by omega);have hP2:(1000000000:Nat) ^ (k+k)≤1000000000 ^ (k+k+k):=Nat.pow_le_pow_right (by decide) (by omega);have hng:n*g<1000000000 ^ (k+k):=by rw[Nat.pow_add];exact Nat.mul_lt_mul'' hn (by omega)
  have hmf:m*f<1000000000 ^ (k+k):=by rw[Nat.pow_add];exact Nat.mul_lt_mul'' hm (by omega)
  have hk1 : 1 ≤ k := by rcases Nat.eq_zero_or_pos k with h0|h0;· subst h0;simp at hd;omega
                         · exact h0
  have hbm2 : bm.2 < 1000000000 ^ (k + k + k):=by
    have h3 : bm.2 ≤ n * g + m * f := by rw[hbm];unfold Cub.addSg;split;· exact Nat.le_refl _
                                         · split<;>(simp only[];omega)
    have h4:(1000000000:Nat) ^ (k+k)*1000000000 ^ 1≤1000000000 ^ (k+k+k):=by rw[←Nat.pow_add];exact Nat.pow_le_pow_right (by decide) (by omega)
    omega
  have HGC:Hid (∀W,Below V.heap.size V W→Calls Tryz.prog 148 #[.agg #[.slice a2 l2 c2],.agg #[.slice a4 l4 c4]] W fun e w'=>∃a l c,e=.returned (.agg #[.slice a l c])∧zAf w' (.agg #[.slice a l c]) s∧Bw W w'):=fun W hb=>by
    rw[hs];exact hG W _ _ d e ((un HX2).later hb) ((un HY2).later hb) (by omega) (by omega)
  have HD:=zAb hD;have HDD:Hid (d<1000000000 ^ (k+k+k)∧e<1000000000 ^ (k+k+k)∧0<s):=⟨by omega,by omega,hs0⟩;have HMA:Hid (∀W v,zAf W (.agg #[.slice a1 l1 c1]) n→zAf W v g→Calls Tryz.prog 151 #[.agg #[.slice a1 l1 c1],v] W fun r w'=>∃v',r=.returned v'∧zAf w' v' (n*g)∧Bw W w'):=fun W v i1 i2=>mul_any _ _ n g k W i1 i2 (by omega) hn (by omega)
  have HMB:Hid (∀W v,zAf W (.agg #[.slice a3 l3 c3]) m→zAf W v f→Calls Tryz.prog 151 #[.agg #[.slice a3 l3 c3],v] W fun r w'=>∃v',r=.returned v'∧zAf w' v' (m*f)∧Bw W w'):=fun W v i1 i2=>mul_any _ _ m f k W i1 i2 (by omega) hm (by omega)
  have HSG:Hid (∀W x y,zAf W x (n*g)→zAf W y (m*f)→Calls Tryz.prog 150 #[.bool b,x,.bool c,y] W fun e w'=>∃a l d,e=.returned (.tuple #[.bool bm.1,.agg #[.slice a l d]])∧zAf w' (.agg #[.slice a l d]) bm.2∧Bw W w'):=fun W x y i1 i2=>by
    rw[hbm];exact addSigned_any b c x y (n*g) (m*f) (k+k+k) W i1 i2 (by omega) (by omega) (by omega)
  have HLW:Hid (∀W x y,zAf W x bm.2→zAf W y s→Calls Tryz.prog 152 #[x,y] W fun e w'=>∃a1 l1 c1 a2 l2 c2,e=.returned (.tuple #[.agg #[.slice a1 l1 c1],.agg #[.slice a2 l2 c2]])∧zAf w' (.agg #[.slice a1 l1 c1]) (bm.2 / Nat.gcd bm.2 s)∧zAf w' (.agg #[.slice a2 l2 c2]) (s / Nat.gcd bm.2 s)∧Bw W w'):=fun W x y i1 i2=>
    zEy x y bm.2 s (k+k+k) W i1 i2 hbm2 (by omega) hs0 hD hG
  have hsl:s / Nat.gcd bm.2 s≤s:=Nat.div_le_self _ _;have hml:bm.2 / Nat.gcd bm.2 s≤bm.2:=Nat.div_le_self _ _;generalize hM:bm.2 / Nat.gcd bm.2 s=M at *
  generalize hT:s / Nat.gcd bm.2 s=T at *
  have hTf:T*f<1000000000 ^ (k+k):=by rw[Nat.pow_add];exact Nat.mul_lt_mul'' (by omega) (by omega)
  have hTfg:T*f*g<1000000000 ^ (k+k+k):=by rw[Nat.pow_add];exact Nat.mul_lt_mul'' hTf (by omega)
  have HMC:Hid (∀W x y,zAf W x T→zAf W y f→Calls Tryz.prog 151 #[x,y] W fun r w'=>∃v',r=.returned v'∧zAf w' v' (T*f)∧Bw W w'):=fun W x y i1 i2=>mul_any _ _ T f k W i1 i2 (by omega) (by omega) (by omega)
  have HMD:Hid (∀W x y,zAf W x (T*f)→zAf W y g→Calls Tryz.prog 151 #[x,y] W fun r w'=>∃v',r=.returned v'∧zAf w' v' (T*f*g)∧Bw W w'):=fun W x y i1 i2=>mul_any _ _ (T*f) g (k+k) W i1 i2 (by omega) hTf (Nat.lt_of_lt_of_le (by omega:g<1000000000 ^ k) (Nat.pow_le_pow_right (by decide) (by omega)))
  have HBD:Hid (M<1000000000 ^ (k+k+k)∧T*f*g<1000000000 ^ (k+k+k)∧0<1000000000 ^ (k+k+k)∧1<1000000000 ^ (k+k+k)):=by
    refine⟨by omega,hTfg,by omega,?_⟩;have:(1000000000:Nat) ^ 1≤1000000000 ^ (k+k+k):=Nat.pow_le_pow_right (by decide) (by omega)
    omega
  have HF:Hid (f=d / s∧g=e / s):=⟨hf,hg⟩
  have HDF:Hid (∀W x y,zAf W x d→zAf W y s→Calls Tryz.prog 149 #[x,y] W fun e w'=>∃a1 n1 c1 a2 n2 c2,e=.returned (.tuple #[.agg #[.slice a1 n1 c1],.agg #[.slice a2 n2 c2]])∧zAf w' (.agg #[.slice a1 n1 c1]) f∧Bw W w'):=fun W x y i1 i2=>by
    refine(hD W x y d s i1 i2 (by omega) hs0).mono ?_;rintro e w' ⟨p1,p2,p3,p4,p5,p6,he,i,_,hb⟩;rw[hf];exact⟨p1,p2,p3,p4,p5,p6,he,i,hb⟩
  have HDG:Hid (∀W x y,zAf W x e→zAf W y s→Calls Tryz.prog 149 #[x,y] W fun e w'=>∃a1 n1 c1 a2 n2 c2,e=.returned (.tuple #[.agg #[.slice a1 n1 c1],.agg #[.slice a2 n2 c2]])∧zAf w' (.agg #[.slice a1 n1 c1]) g∧Bw W w'):=fun W x y i1 i2=>by
    refine(hD W x y e s i1 i2 (by omega) hs0).mono ?_;rintro e w' ⟨p1,p2,p3,p4,p5,p6,he,i,_,hb⟩;rw[hg];exact⟨p1,p2,p3,p4,p5,p6,he,i,hb⟩
  clear hx hy hx1 hx2 hy1 hy2 h1 h2 hk hn hd hm he hs hf hg hbm hD hG hd0 he0 hs0 hsd hfd hge hP hP2 hng hmf hk1 hbm2 hsl hml hM hT hTf hTfg HD HDD HF;obtain⟨bb,mm⟩:=bm
  dsimp only at *
  go_enter Tryz.func66,Tryz.ntmps66
  go_upto_region 1 with fail
  rw[←un HV];clear hV HV;have t2:=(un HS).x.c2;have t4:=(un HS).y.c2
  go_upto_region 2 with (go_at_call 148;go_must(refine(un HGC V (Below.refl _ _)).mono ?_;rintro e w1 ⟨ag,lg,cg,rfl,hv1,hb1⟩;have HS1:=zAb ((un HS).later hb1);have HG1:=zAb hv1;have HX11:=zAb ((un HX1).later hb1);have HX12:=zAb ((un HX2).later hb1);have HY11:=zAb ((un HY1).later hb1);have HY12:=zAb ((un HY2).later hb1);clear hv1 hb1 t2 t4))
  clear HS HX1 HX2 HY1 HY2 HGC;obtain⟨V1,hV1⟩:∃V1,V1=w1.alloc (.cells #[.slice ag lg cg] 80):=⟨_,rfl⟩;have hb:Below w1.heap.size w1 V1:=by rw[hV1];exact bA
  have HS:Hid (AS w V1 (.bool b) (.slice a1 l1 c1) (.slice a2 l2 c2) (.bool c) (.slice a3 l3 c3) (.slice a4 l4 c4) [(w1.heap.size,.slice ag lg cg)]):=by rw[hV1];exact(un HS1).push _
  have HG:=zAb ((un HG1).later hb);have HX1:=zAb ((un HX11).later hb);have HX2:=zAb ((un HX12).later hb);have HY1:=zAb ((un HY11).later hb);have HY2:=zAb ((un HY12).later hb);rw[←hV1];clear hV1 hb HS1 HG1 HX11 HX12 HY11 HY12;generalize w1.heap.size=g5 at *
  have t2:=(un HS).x.c2;have t4:=(un HS).y.c2;have q5:=((un HS).bx (g5,.slice ag lg cg) (by simp)).c
  dsimp only at q5
  go_upto_region 3 with (go_at_call 149;go_must(refine(un HDF V1 _ _ (un HX2) (un HG)).mono ?_;rintro e w2 ⟨af,lf,cf,af2,lf2,cf2,rfl,hv2,hb2⟩;have HS2:=zAb ((un HS).later hb2);have HF2:=zAb hv2;have HG2:=zAb ((un HG).later hb2);have HX21:=zAb ((un HX1).later hb2);have HY21:=zAb ((un HY1).later hb2);have HY22:=zAb ((un HY2).later hb2);clear hv2 hb2 t2 t4 q5))
  clear HS HG HX1 HX2 HY1 HY2;obtain⟨V2,hV2⟩:∃V2,V2=(w2.alloc (.cells #[.slice af lf cf] 80)).alloc (.cells #[.slice af2 lf2 cf2] 80):=⟨_,rfl⟩;have hb:Below w2.heap.size w2 V2:=by rw[hV2];exact bA.alloc (by simp) _
  have h56:g5<w2.heap.size:=((un HS2).bx (g5,.slice ag lg cg) (by simp)).lt;have HS:Hid (AS w V2 (.bool b) (.slice a1 l1 c1) (.slice a2 l2 c2) (.bool c) (.slice a3 l3 c3) (.slice a4 l4 c4) [(w2.heap.size,.slice af lf cf),(g5,.slice ag lg cg)]):=by rw[hV2];exact(((un HS2).push _).push _).sub (by intro p hp;simp at hp ⊢;grind)
  have HG:=zAb ((un HG2).later hb);have HF:=zAb ((un HF2).later hb);have HX1:=zAb ((un HX21).later hb);have HY1:=zAb ((un HY21).later hb);have HY2:=zAb ((un HY22).later hb);rw[←hV2];clear hV2 hb HS2 HG2 HF2 HX21 HY21 HY22;generalize w2.heap.size=g6 at *
  have t4:=(un HS).y.c2;have q5:=((un HS).bx (g5,.slice ag lg cg) (by simp)).c
  dsimp only at q5
  go_upto_region 4 with (go_at_call 149;go_must(refine(un HDG V2 _ _ (un HY2) (un HG)).mono ?_;rintro e w3 ⟨ah,lh,ch,ah2,lh2,ch2,rfl,hv3,hb3⟩;have HS3:=zAb ((un HS).later hb3);have HH3:=zAb hv3;have HG3:=zAb ((un HG).later hb3);have HF3:=zAb ((un HF).later hb3);have HX31:=zAb ((un HX1).later hb3);have HY31:=zAb ((un HY1).later hb3);clear hv3 hb3 t4 q5))
  clear HS HG HF HX1 HY1 HY2 HDF HDG;obtain⟨V3,hV3⟩:∃V3,V3=(w3.alloc (.cells #[.slice ah lh ch] 80)).alloc (.cells #[.slice ah2 lh2 ch2] 80):=⟨_,rfl⟩;have hb:Below w3.heap.size w3 V3:=by rw[hV3];exact bA.alloc (by simp) _
  have h68:g6<w3.heap.size:=((un HS3).bx (g6,.slice af lf cf) (by simp)).lt;have HS:Hid (AS w V3 (.bool b) (.slice a1 l1 c1) (.slice a2 l2 c2) (.bool c) (.slice a3 l3 c3) (.slice a4 l4 c4) [(w3.heap.size,.slice ah lh ch),(g6,.slice af lf cf),(g5,.slice ag lg cg)]):=by rw[hV3];exact(((un HS3).push _).push _).sub (by intro p hp;simp at hp ⊢;grind)
  have HG:=zAb ((un HG3).later hb);have HF:=zAb ((un HF3).later hb);have HH:=zAb ((un HH3).later hb);have HX1:=zAb ((un HX31).later hb);have HY1:=zAb ((un HY31).later hb);rw[←hV3];clear hV3 hb HS3 HG3 HF3 HH3 HX31 HY31;generalize w3.heap.size=g8 at *
  have t0:=(un HS).x.c0;have t1:=(un HS).x.c1;have t3:=(un HS).y.c0;have t4:=(un HS).y.c1;have q6:=((un HS).bx (g6,.slice af lf cf) (by simp)).c;have q8:=((un HS).bx (g8,.slice ah lh ch) (by simp)).c
  dsimp only at q6 q8
  have HFX:Hid (∀U,Below V3.heap.size V3 U→AS w U (.bool b) (.slice a1 l1 c1) (.slice a2 l2 c2) (.bool c) (.slice a3 l3 c3) (.slice a4 l4 c4) [(g8,.slice ah lh ch),(g6,.slice af lf cf),(g5,.slice ag lg cg)]):=fun U hb=>(un HS).later hb
  have HC:Hid (∀U,Below V3.heap.size V3 U→(U.cell? ⟨w.heap.size,0,none⟩=some (.bool b)∧U.cell? ⟨w.heap.size,1,none⟩=some (.slice a1 l1 c1)∧U.cell? ⟨w.heap.size+1,0,none⟩=some (.bool c)∧U.cell? ⟨w.heap.size+1,1,none⟩=some (.slice a3 l3 c3)∧U.cell? ⟨g6,0,none⟩=some (.slice af lf cf)∧U.cell? ⟨g8,0,none⟩=some (.slice ah lh ch))∧w.heap.size<U.heap.size∧w.heap.size+1<U.heap.size∧g6<U.heap.size∧g8<U.heap.size):=fun U hb=>by
    have s:=un HFX U hb;exact⟨⟨s.x.c0,s.x.c1,s.y.c0,s.y.c1,(s.bx (g6,.slice af lf cf) (by simp)).c,(s.bx (g8,.slice ah lh ch) (by simp)).c⟩,s.x.lt,s.y.lt,(s.bx (g6,.slice af lf cf) (by simp)).lt,(s.bx (g8,.slice ah lh ch) (by simp)).lt⟩
  have HMA':Hid (∀U,Below V3.heap.size V3 U→Calls Tryz.prog 151 #[.agg #[.slice a1 l1 c1],.agg #[.slice ah lh ch]] U fun r w'=>∃v',r=.returned v'∧zAf w' v' (n*g)∧Bw U w'):=fun U hb=>un HMA U _ ((un HX1).later hb) ((un HH).later hb)
  have HMB':Hid (∀U,Below V3.heap.size V3 U→Calls Tryz.prog 151 #[.agg #[.slice a3 l3 c3],.agg #[.slice af lf cf]] U fun r w'=>∃v',r=.returned v'∧zAf w' v' (m*f)∧Bw U w'):=fun U hb=>un HMB U _ ((un HY1).later hb) ((un HF).later hb)
  have HSG':Hid (∀U0 U x y,zAf U0 x (n*g)→zAf U0 y (m*f)→Below U0.heap.size U0 U→Calls Tryz.prog 150 #[.bool b,x,.bool c,y] U fun e w'=>∃a l d,e=.returned (.tuple #[.bool bb,.agg #[.slice a l d]])∧zAf w' (.agg #[.slice a l d]) mm∧Bw U w'):=fun U0 U x y i1 i2 hb=>un HSG U x y (i1.later hb) (i2.later hb)
  have zv:=(un HC V3 (Below.refl _ _)).2;clear HMA HMB HSG
  go_region_held3 (fun w'=>w'.cell? ⟨w.heap.size,0,none⟩=some (.bool b)∧w'.cell? ⟨w.heap.size,1,none⟩=some (.slice a1 l1 c1)∧w'.cell? ⟨w.heap.size+1,0,none⟩=some (.bool c)∧w'.cell? ⟨w.heap.size+1,1,none⟩=some (.slice a3 l3 c3)∧w'.cell? ⟨g6,0,none⟩=some (.slice af lf cf)∧w'.cell? ⟨g8,0,none⟩=some (.slice ah lh ch)) (first|assumption|(refine⟨?_,?_,?_,?_,?_,?_⟩<;>first|assumption|(simp[go_sem, *];done)|(rw[World.cell?_setCell_other _ _ _ _ (by simp;omega)];assumption))|(simp[go_sem, *];done)) ((first
    | (go_at_call_of 151 (Value.agg #[Value.slice a1 l1 c1]);go_must(refine(un HMA' _ (by first|exact(Below.refl _ _).drew|exact((Below.refl _ _).drew).alloc (by simp) _)).mono ?_;rintro e wa ⟨va,rfl,hva,hba⟩;obtain⟨aa,la,ca,rfl⟩:=hva.shape;have HVA:=zAb hva;have HCA:Hid (Bw V3 wa):=(by first|exact((Below.refl V3.heap.size V3).drew).trans hba|exact(((Below.refl V3.heap.size V3).drew).alloc (by simp) _).trans (hba.mono (by simp)));(first|(have HN:Hid (Box wa V3.heap.size (.slice none 0 0)):=(Box.new V3.drew (.slice none 0 0)).later hba;have nc:=(un HN).c;have nf:=(un HN).f)|skip);clear hva hba t0 t1 t3 t4 q6 q8;obtain⟨⟨t0,t1,t3,t4,q6,q8⟩,za⟩:=un HC wa (un HCA)))
    | (go_at_call_of 151 (Value.agg #[Value.slice a3 l3 c3]);go_must(refine(un HMB' _ (by first|exact un HCA|exact(un HCA).alloc (un HCA).size _)).mono ?_;rintro e wb ⟨vb,rfl,hvb,hbb⟩;obtain⟨ab,lb,cb,rfl⟩:=hvb.shape;have HVB:=zAb hvb;have HBB:Hid (Bw wa wb):=(by first|exact hbb|exact bA.trans (hbb.mono (by simp)));have HVA':=zAb ((un HVA).later (un HBB));have HCB:=zAb ((un HCA).trans ((un HBB).mono (un HCA).size));(first|(have HN2:=zAb ((un HN).later hbb);clear HN;have HN:=HN2;clear HN2;clear nc nf;have nc:=(un HN).c;have nf:=(un HN).f)|(have HN:=zAb ((Box.new _ _).later hbb);have nc:=(un HN).c;have nf:=(un HN).f)|skip);clear hvb hbb t0 t1 t3 t4 q6 q8;obtain⟨⟨t0,t1,t3,t4,q6,q8⟩,zb⟩:=un HC wb (un HCB)))
    | (go_at_call 150;go_must(refine(un HSG' wb _ _ _ (un HVA') (un HVB) (by first|exact Below.refl _ _|exact bA)).mono ?_;rintro e wc ⟨am,lm,cm,rfl,hvc,hbc⟩;have HVM:=zAb hvc;have HBC:Hid (Bw wb wc):=(by first|exact hbc|exact bA.trans (hbc.mono (by simp)));have HCC:=zAb ((un HCB).trans ((un HBC).mono (un HCB).size));(first|(have HN2:=zAb ((un HN).later hbc);clear HN;have HN:=HN2;clear HN2;clear nc nf;have nc:=(un HN).c;have nf:=(un HN).f)|(have HN:=zAb ((Box.new _ _).later hbc);have nc:=(un HN).c;have nf:=(un HN).f)|skip);clear hvc hbc t0 t1 t3 t4 q6 q8;obtain⟨⟨t0,t1,t3,t4,q6,q8⟩,zc⟩:=un HC wc (un HCC)))))
  all_goals
    first
    | (obtain⟨V4,hV4⟩:∃V4,V4=wc.alloc (.cells #[.slice am lm cm] 80):=⟨_,rfl⟩
       rw[←hV4];have hlt:g8<wc.heap.size∧g6<wc.heap.size∧g5<wc.heap.size:=by omega
       have hb:Below wc.heap.size wc V4:=by rw[hV4];exact bA
       have HS4:Hid (AS w V4 (.bool b) (.slice a1 l1 c1) (.slice a2 l2 c2) (.bool c) (.slice a3 l3 c3) (.slice a4 l4 c4) [(wc.heap.size,.slice am lm cm),(g8,.slice ah lh ch),(g6,.slice af lf cf),(g5,.slice ag lg cg)]):=by rw[hV4];exact(un HFX wc (un HCC)).push _
       have HM4:=zAb ((un HVM).later hb);have HG4:=zAb (((un HG).later (un HCC)).later hb);have HF4:=zAb (((un HF).later (un HCC)).later hb);have HH4:=zAb (((un HH).later (un HCC)).later hb);clear hV4 hb;clear HS HG HF HH HX1 HY1 t0 t1 t3 t4 q6 q8 HFX HC HMA' HMB' HSG' zv za zb zc HVA HCA HVB HBB HVA' HCB HVM HBC HCC;generalize wc.heap.size=g11 at *)
    | (obtain⟨V4,hV4⟩:∃V4,V4=wc.setCell ⟨V3.heap.size,0,none⟩ (.slice am lm cm):=⟨_,rfl⟩
       rw[←hV4];have hlt:g8<V3.heap.size∧g6<V3.heap.size∧g5<V3.heap.size:=by omega
       have HS4:Hid (AS w V4 (.bool b) (.slice a1 l1 c1) (.slice a2 l2 c2) (.bool c) (.slice a3 l3 c3) (.slice a4 l4 c4) [(V3.heap.size,.slice am lm cm),(g8,.slice ah lh ch),(g6,.slice af lf cf),(g5,.slice ag lg cg)]):=by
         rw[hV4];exact((un HFX wc (un HCC)).add (un HN) (un HS).r.lt).set (by intro p hp;simp at hp;rcases hp with rfl|rfl|rfl<;>simp<;>omega) _
       have HM4:Hid (zAf V4 (.agg #[.slice am lm cm]) mm):=by rw[hV4];exact(un HVM).box _ nc (zAp _ _ _)
       have HG4:Hid (zAf V4 (.agg #[.slice ag lg cg]) s):=by rw[hV4];exact((un HG).later (un HCC)).box _ nc (zAp _ _ _)
       have HF4:Hid (zAf V4 (.agg #[.slice af lf cf]) f):=by rw[hV4];exact((un HF).later (un HCC)).box _ nc (zAp _ _ _)
       have HH4:Hid (zAf V4 (.agg #[.slice ah lh ch]) g):=by rw[hV4];exact((un HH).later (un HCC)).box _ nc (zAp _ _ _)
       clear hV4 HN nc nf;clear HS HG HF HH HX1 HY1 t0 t1 t3 t4 q6 q8 HFX HC HMA' HMB' HSG' zv za zb zc HVA HCA HVB HBB HVA' HCB HVM HBC HCC;generalize V3.heap.size=g11 at *)
    | (obtain⟨V4,hV4⟩:∃V4,V4=wc.setCell ⟨wa.heap.size,0,none⟩ (.slice am lm cm):=⟨_,rfl⟩
       rw[←hV4];have hlt:g8<wa.heap.size∧g6<wa.heap.size∧g5<wa.heap.size:=by omega
       have HS4:Hid (AS w V4 (.bool b) (.slice a1 l1 c1) (.slice a2 l2 c2) (.bool c) (.slice a3 l3 c3) (.slice a4 l4 c4) [(wa.heap.size,.slice am lm cm),(g8,.slice ah lh ch),(g6,.slice af lf cf),(g5,.slice ag lg cg)]):=by
         rw[hV4];exact((un HFX wc (un HCC)).add (un HN) (un HFX wa (un HCA)).r.lt).set (by intro p hp;simp at hp;rcases hp with rfl|rfl|rfl<;>simp<;>omega) _
       have HM4:Hid (zAf V4 (.agg #[.slice am lm cm]) mm):=by rw[hV4];exact(un HVM).box _ nc (zAp _ _ _)
       have HG4:Hid (zAf V4 (.agg #[.slice ag lg cg]) s):=by rw[hV4];exact((un HG).later (un HCC)).box _ nc (zAp _ _ _)
       have HF4:Hid (zAf V4 (.agg #[.slice af lf cf]) f):=by rw[hV4];exact((un HF).later (un HCC)).box _ nc (zAp _ _ _)
       have HH4:Hid (zAf V4 (.agg #[.slice ah lh ch]) g):=by rw[hV4];exact((un HH).later (un HCC)).box _ nc (zAp _ _ _)
       clear hV4 HN nc nf;clear HS HG HF HH HX1 HY1 t0 t1 t3 t4 q6 q8 HFX HC HMA' HMB' HSG' zv za zb zc HVA HCA HVB HBB HVA' HCB HVM HBC HCC;generalize wa.heap.size=g11 at *)
    | (obtain⟨V4,hV4⟩:∃V4,V4=wc.setCell ⟨wb.heap.size,0,none⟩ (.slice am lm cm):=⟨_,rfl⟩
       rw[←hV4];have hlt:g8<wb.heap.size∧g6<wb.heap.size∧g5<wb.heap.size:=by omega
       have HS4:Hid (AS w V4 (.bool b) (.slice a1 l1 c1) (.slice a2 l2 c2) (.bool c) (.slice a3 l3 c3) (.slice a4 l4 c4) [(wb.heap.size,.slice am lm cm),(g8,.slice ah lh ch),(g6,.slice af lf cf),(g5,.slice ag lg cg)]):=by
         rw[hV4];exact((un HFX wc (un HCC)).add (un HN) (un HFX wb (un HCB)).r.lt).set (by intro p hp;simp at hp;rcases hp with rfl|rfl|rfl<;>simp<;>omega) _
       have HM4:Hid (zAf V4 (.agg #[.slice am lm cm]) mm):=by rw[hV4];exact(un HVM).box _ nc (zAp _ _ _)
       have HG4:Hid (zAf V4 (.agg #[.slice ag lg cg]) s):=by rw[hV4];exact((un HG).later (un HCC)).box _ nc (zAp _ _ _)
       have HF4:Hid (zAf V4 (.agg #[.slice af lf cf]) f):=by rw[hV4];exact((un HF).later (un HCC)).box _ nc (zAp _ _ _)
       have HH4:Hid (zAf V4 (.agg #[.slice ah lh ch]) g):=by rw[hV4];exact((un HH).later (un HCC)).box _ nc (zAp _ _ _)
       clear hV4 HN nc nf;clear HS HG HF HH HX1 HY1 t0 t1 t3 t4 q6 q8 HFX HC HMA' HMB' HSG' zv za zb zc HVA HCA HVB HBB HVA' HCB HVM HBC HCC;generalize wb.heap.size=g11 at *)
    have n1:¬g11=g5:=by omega
    have n2:¬g5=g11:=by omega
    have q11:=((un HS4).bx (g11,.slice am lm cm) (by simp)).c;have q5:=((un HS4).bx (g5,.slice ag lg cg) (by simp)).c
    dsimp only at q11 q5
    go_upto_region 6 with (go_at_call 152;go_must(refine(un HLW V4 _ _ (un HM4) (un HG4)).mono ?_;rintro e w5 ⟨ai,li,ci,aj,lj,cj,rfl,hi5,hj5,hb5⟩;have HS5:=zAb ((un HS4).later hb5);have HI5:=zAb hi5;have HJ5:=zAb hj5;have HF5:=zAb ((un HF4).later hb5);have HH5:=zAb ((un HH4).later hb5);clear hi5 hj5 hb5 q11 q5;have q11:=((un HS5).bx (g11,.slice am lm cm) (by simp)).c;have q5:=((un HS5).bx (g5,.slice ag lg cg) (by simp)).c;have p11:=((un HS5).bx (g11,.slice am lm cm) (by simp)).f;have p5:=((un HS5).bx (g5,.slice ag lg cg) (by simp)).f;dsimp only at q11 q5 p11 p5))
    obtain⟨V5,hV5⟩:∃V5,V5=(w5.setCell ⟨g11,0,none⟩ (.slice ai li ci)).setCell ⟨g5,0,none⟩ (.slice aj lj cj):=⟨_,rfl⟩;rw[←hV5];have hq:(w5.setCell ⟨g11,0,none⟩ (.slice ai li ci)).cell? ⟨g5,0,none⟩=some (.slice ag lg cg):=by rw[World.cell?_setCell_other _ _ _ _ (by first|(simp;done)|(simp;omega)|(simp[n1,n2];done))];exact q5
    have HS6:Hid (AS w V5 (.bool b) (.slice a1 l1 c1) (.slice a2 l2 c2) (.bool c) (.slice a3 l3 c3) (.slice a4 l4 c4) [(g5,.slice aj lj cj),(g11,.slice ai li ci),(g8,.slice ah lh ch),(g6,.slice af lf cf)]):=by
      rw[hV5];have s1:=(un HS5).set (by intro p hp;simp at hp;rcases hp with rfl|rfl|rfl<;>simp<;>omega) (.slice ai li ci);exact(s1.sub (M:=[(g5,.slice ag lg cg),(g11,.slice ai li ci),(g8,.slice ah lh ch),(g6,.slice af lf cf)]) (by intro p hp;simp at hp ⊢;grind)).set (by intro p hp;simp at hp;rcases hp with rfl|rfl|rfl<;>simp<;>omega) _
    have HI6:Hid (zAf V5 (.agg #[.slice ai li ci]) M):=by rw[hV5];exact((un HI5).box _ q11 (zAp _ _ _)).box _ hq (zAp _ _ _)
    have HJ6:Hid (zAf V5 (.agg #[.slice aj lj cj]) T):=by rw[hV5];exact((un HJ5).box _ q11 (zAp _ _ _)).box _ hq (zAp _ _ _)
    have HF6:Hid (zAf V5 (.agg #[.slice af lf cf]) f):=by rw[hV5];exact((un HF5).box _ q11 (zAp _ _ _)).box _ hq (zAp _ _ _)
    have HH6:Hid (zAf V5 (.agg #[.slice ah lh ch]) g):=by rw[hV5];exact((un HH5).box _ q11 (zAp _ _ _)).box _ hq (zAp _ _ _)
    clear hV5 hq HS4 HM4 HG4 HF4 HH4 HS5 HI5 HJ5 HF5 HH5 q11 q5 p11 p5 HLW;have q11:=((un HS6).bx (g11,.slice ai li ci) (by simp)).c
    dsimp only at q11
    have HZ:=zAb (zCk _ M V5 (un HI6))
    by_cases hM0:M=0
    · have HV:Hid (Cub.valQ b n d+Cub.valQ c m e=0):=(un HADD).1 hM0
      rw[show(M == 0)=true by rw[hM0];rfl]at HZ;have HW0:=zAb (fun W=>whole_any 0 W (by omega));clear hM0
      go_wp2_with (first
        | (go_at_call 153;go_must(refine(un HZ).mono ?_;rintro e w6 ⟨rfl,hb6⟩;have HS7:=zAb ((un HS6).later hb6);clear hb6))
        | (go_at_call 154;go_must(refine(un HW0 _).mono ?_;rintro e w7 ⟨v7,rfl,hv7,hb7⟩;obtain⟨i1,i2,i3,i4,i5,i6,rfl,hw1,hw2⟩:=hv7.form;have HS8:=zAb ((un HS7).later hb7);have HW1:=zAb hw1;have HW2:=zAb hw2;clear hv7 hb7 hw1 hw2;have r0:=(un HS8).r.c0;have r1:=(un HS8).r.c1;have r2:=(un HS8).r.c2;have rf0:=(un HS8).r.f0;have rf1:=(un HS8).r.f1;have rf2:=(un HS8).r.f2)))
      have hS:=(un HS8).r.store (.bool false) (.slice i1 i2 i3) (.slice i4 i5 i6);have hb:Below w.heap.size w (zAs w7 (w.heap.size+1+1) (.bool false) (.slice i1 i2 i3) (.slice i4 i5 i6)):=zAq (un HS8).below (by omega) _ _ _;have u0:=hS.c0;have u1:=hS.c1;have u2:=hS.c2;exact bodyPost_ret (v:=.agg #[.bool false,.slice i1 i2 i3,.slice i4 i5 i6]) (w:=zAs w7 (w.heap.size+1+1) (.bool false) (.slice i1 i2 i3) (.slice i4 i5 i6)) (by simp[results,Tryz.results66,go_sem,u0,u1,u2]) rfl ⟨_,false,0,1,rfl,⟨_,_,rfl,(un HS8).r.big _ _ _ (un HW1),(un HS8).r.big _ _ _ (un HW2)⟩,Cub.low_zero,(by rw[un HV];exact Cub.valQ_zero _ _),(un HBD).2.2.1,(un HBD).2.2.2,hb⟩
    · have HV:=zAb ((un HADD).2 hM0)
      rw[show(M == 0)=false by rw[beq_eq_false_iff_ne];exact hM0]at HZ;clear hM0
      go_upto_region 8 with (go_at_call 153;go_must(refine(un HZ).mono ?_;rintro e w6 ⟨rfl,hb6⟩;have HS7:=zAb ((un HS6).later hb6);have HI7:=zAb ((un HI6).later hb6);have HJ7:=zAb ((un HJ6).later hb6);have HF7:=zAb ((un HF6).later hb6);have HH7:=zAb ((un HH6).later hb6);clear hb6 q11))
      clear HS6 HI6 HJ6 HF6 HH6 HZ;have q11:=((un HS7).bx (g11,.slice ai li ci) (by simp)).c;have q5:=((un HS7).bx (g5,.slice aj lj cj) (by simp)).c;have q6:=((un HS7).bx (g6,.slice af lf cf) (by simp)).c;have q8:=((un HS7).bx (g8,.slice ah lh ch) (by simp)).c
      dsimp only at q11 q5 q6 q8
      have HC:Hid (∀U,Below w6.heap.size w6 U→(U.cell? ⟨g11,0,none⟩=some (.slice ai li ci)∧U.cell? ⟨g5,0,none⟩=some (.slice aj lj cj)∧U.cell? ⟨g6,0,none⟩=some (.slice af lf cf)∧U.cell? ⟨g8,0,none⟩=some (.slice ah lh ch))∧U.cell? ⟨w.heap.size+1+1,0,none⟩=some (.bool false)∧U.cell? ⟨w.heap.size+1+1,1,none⟩=some (.slice none 0 0)∧U.cell? ⟨w.heap.size+1+1,2,none⟩=some (.slice none 0 0)∧U.frozen? ⟨w.heap.size+1+1,0,none⟩=false∧U.frozen? ⟨w.heap.size+1+1,1,none⟩=false∧U.frozen? ⟨w.heap.size+1+1,2,none⟩=false):=fun U hb=>by
        have s:=(un HS7).later hb;exact⟨⟨(s.bx (g11,.slice ai li ci) (by simp)).c,(s.bx (g5,.slice aj lj cj) (by simp)).c,(s.bx (g6,.slice af lf cf) (by simp)).c,(s.bx (g8,.slice ah lh ch) (by simp)).c⟩,s.r.c0,s.r.c1,s.r.c2,s.r.f0,s.r.f1,s.r.f2⟩
      have m1:w.heap.size+1+1<g11:=(un HS7).gt (g11,.slice ai li ci) (by simp);have m2:w.heap.size+1+1<g5:=(un HS7).gt (g5,.slice aj lj cj) (by simp);have m3:w.heap.size+1+1<g6:=(un HS7).gt (g6,.slice af lf cf) (by simp);have m4:w.heap.size+1+1<g8:=(un HS7).gt (g8,.slice ah lh ch) (by simp)
      go_region_held3 (fun w'=>w'.cell? ⟨g11,0,none⟩=some (.slice ai li ci)∧w'.cell? ⟨g5,0,none⟩=some (.slice aj lj cj)∧w'.cell? ⟨g6,0,none⟩=some (.slice af lf cf)∧w'.cell? ⟨g8,0,none⟩=some (.slice ah lh ch)) (first|assumption|(refine⟨?_,?_,?_,?_⟩<;>first|assumption|(simp[go_sem, *];done)|(rw[World.cell?_setCell_other _ _ _ _ (by simp;omega),World.cell?_setCell_other _ _ _ _ (by simp),World.cell?_setCell_other _ _ _ _ (by simp)];assumption))|(simp[go_sem, *];done)) ((first
        | (go_at_call_of 151 (Value.agg #[Value.slice aj lj cj]);go_must(refine(un HMC _ _ _ ((un HJ7).later ((Below.refl _ _).drew)) ((un HF7).later ((Below.refl _ _).drew))).mono ?_;rintro e wa2 ⟨va,rfl,hva,hba⟩;obtain⟨ak,lk,ck,rfl⟩:=hva.shape;have HVK:=zAb hva;have HCK:=zAb (((Below.refl w6.heap.size w6).drew).trans hba);clear hva hba q11 q5 q6 q8;obtain⟨⟨q11,q5,q6,q8⟩,_⟩:=un HC wa2 (un HCK)))
        | (go_at_call 151;go_must(refine(un HMD _ _ _ (un HVK) ((un HH7).later (un HCK))).mono ?_;rintro e wb2 ⟨vb,rfl,hvb,hbb⟩;obtain⟨ao,lo,co,rfl⟩:=hvb.shape;have HVO:=zAb hvb;have HCO:=zAb (bt HCK hbb);clear hvb hbb q11 q5 q6 q8;obtain⟨⟨q11,q5,q6,q8⟩,r0,r1,r2,rf0,rf1,rf2⟩:=un HC wb2 (un HCO)))))
      have HS8:=zAb ((un HS7).later (un HCO));have HI8:=zAb ((un HI7).later (un HCO));clear r0 r1 r2 rf0 rf1 rf2 q11 q5 q6 q8;have hS:=(un HS8).r.store (.bool bb) (.slice ai li ci) (.slice ao lo co);have hb:Below w.heap.size w (zAs wb2 (w.heap.size+1+1) (.bool bb) (.slice ai li ci) (.slice ao lo co)):=zAq (un HS8).below (by omega) _ _ _;have u0:=hS.c0;have u1:=hS.c1;have u2:=hS.c2;obtain⟨V9,hV9⟩:∃V9,V9=zAs wb2 (w.heap.size+1+1) (.bool bb) (.slice ai li ci) (.slice ao lo co):=⟨_,rfl⟩;have hV9':V9=((wb2.setCell ⟨w.heap.size+1+1,0,none⟩ (.bool bb)).setCell ⟨w.heap.size+1+1,1,none⟩ (.slice ai li ci)).setCell ⟨w.heap.size+1+1,2,none⟩ (.slice ao lo co):=hV9;have HE9:Hid (zAf V9 (.agg #[.slice ai li ci]) M∧zAf V9 (.agg #[.slice ao lo co]) (T*f*g)∧Bw w V9):=by rw[hV9];exact⟨(un HS8).r.big _ _ _ (un HI8),(un HS8).r.big _ _ _ (un HVO),hb⟩
      rw[←hV9]at u0 u1 u2;rw[←hV9'];clear hV9 hV9' hS hb m1 m2 m3 m4 hlt h56 h68 n1 n2
      go_wp2_with fail
      exact bodyPost_ret (v:=.agg #[.bool bb,.slice ai li ci,.slice ao lo co]) (by simp[results,Tryz.results66,go_sem,u0,u1,u2]) rfl ⟨_,bb,M,T*f*g,rfl,⟨_,_,rfl,(un HE9).1,(un HE9).2.1⟩,(un HV).1,(un HV).2,(un HBD).1,(un HBD).2.1,(un HE9).2.2⟩
theorem qadd (x y:Value) (p q:Rat) (k:Nat) (w:World) (hx:QOf w x p k) (hy:QOf w y q k) (hk:k+k+k≤100000) :
    Calls Tryz.prog 66 #[x,y] w fun r w'=>∃v,r=.returned v∧QOf w' v (p+q) (k+k+k)∧Bw w w':=by
  obtain⟨b,n,d,h1,h2,rfl,h4,h5⟩:=hx;obtain⟨c,m,e,i1,i2,rfl,i4,i5⟩:=hy;refine(fadd_any x y b c n d m e k w h1 i1 h2 i2 hk h4 h5 i4 i5 (divAns _ hk) (gcdAns _ hk)).mono ?_;rintro r w' ⟨v,b',n',d',rfl,j1,j2,j3,j4,j5,hb⟩;exact⟨v,rfl,⟨b',n',d',j1,j2,j3,j4,j5⟩,hb⟩
end Go.Proofs.YtliadckofhblnaaGreatDoor
namespace Go.Proofs.YtliadckofhblnaaGreatDoor
section
variable {P:Program} {ops:Array Oper} {Q:Exit→Act→World→Prop} {md:Region.Mode} {S S7:World→Prop} {k:Nat}
def Inv (k:Nat) (S S7:World→Prop) (l:Array Bool) (w:World):Prop:=(l.getD k false=false→S w)∧S7 w
def wpR (P:Program) (md:Region.Mode) (ops:Array Oper) (Q:Exit→Act→World→Prop) (k:Nat) (S S7:World→Prop):Nat→Array Bool→Act→World→Prop
 | 0,l,a,w=>Region.ready md ops l=[]∧Q .normal a w
 | n+1,l,a,w=>(Region.ready md ops l=[]→Q .normal a w)∧∀j∈Region.ready md ops l,wpOp P ops Q j (fun a' w'=>Inv k S S7 (l.setIfInBounds j true) w'∧wpR P md ops Q k S S7 n (l.setIfInBounds j true) a' w') a w
theorem wpR_any:∀(n:Nat) (l:Array Bool) (a:Act) (w:World),wpR P md ops Q k S S7 n l a w→wpAny P md ops Q n l a w
 | 0,_,_,_,h=>h
 | n+1,_,_,_,h=>⟨h.1,fun j hj=>wpOp_mono (fun a' w' h'=>wpR_any n _ a' w' h'.2) (h.2 j hj)⟩
def Closed (md:Region.Mode) (ops:Array Oper) (l:Array Bool):Prop:=∀(j:Nat) (o:Oper),ops[j]?=some o→l.getD j false=true→∀e∈o.after,Region.binds md e=true→l.getD e.on false=true
theorem Closed.step {l:Array Bool} {j:Nat} (h:Closed md ops l) (hj:j∈Region.ready md ops l):Closed md ops (l.setIfInBounds j true):=by
 obtain⟨_,o,ho,hall⟩:=mem_ready.1 hj;intro q oq hq hl e he hb;rcases Decidable.em (j=q)with rfl|hne
 ·obtain rfl:o=oq:=Option.some.inj (ho.symm.trans hq)
  exact getD_set_true (hall e he hb)
 ·rw[getD_set_ne false hne]at hl
  exact getD_set_true (h q oq hq hl e he hb)
def closedB (md:Region.Mode) (ops:Array Oper) (l:Array Bool):Bool :=
 (List.range ops.size).all fun j=>!l.getD j false || match ops[j]? with
  | some o=>o.after.all fun e=>!Region.binds md e || l.getD e.on false
  | none=>true
theorem closed_of {l:Array Bool} (h:closedB md ops l=true):Closed md ops l:=by
 intro j o ho hl e he hb;unfold closedB at h
 have h1:=List.all_eq_true.1 h j (List.mem_range.2 (Array.getElem?_eq_some_iff.1 ho).1);simp only[ho,hl,Bool.not_true,Bool.false_or]at h1;have h2:=Array.all_eq_true_iff_forall_mem.1 h1 e he
 simpa [hb] using h2
def waits (md:Region.Mode) (ops:Array Oper) (k i:Nat):Bool:=match ops[k]? with
 | some o=>o.after.any fun e=>Region.binds md e && e.on == i
 | none=>true
theorem unlisted {l:Array Bool} {i:Nat} {b:Bool} (h:l.getD i true=false) (h1:l.getD i b=true):False:=by
 rcases Nat.lt_or_ge i l.size with h2|h2
 ·simp[h2]at h h1;rw[h]at h1;cases h1
 ·simp[Array.getElem?_eq_none h2]at h
theorem not_yet {i:Nat} {l:Array Bool} (hc:Closed md ops l) (hz:l.size=ops.size) (hw:waits md ops k i=true) (hi:l.getD i true=false):l.getD k false=false:=by
 cases hl:l.getD k false with
 | false=>rfl
 | true=>
  exfalso
  unfold waits at hw
  cases ho:ops[k]? with
  | none=>
   have:ops.size≤k:=Array.getElem?_eq_none_iff.1 ho;have h2:l[k]?=none:=Array.getElem?_eq_none (by omega);simp[h2]at hl
  | some o=>
   simp only[ho]at hw;obtain⟨e,he,h2⟩:=Array.any_eq_true'.1 hw;simp only[Bool.and_eq_true,beq_iff_eq]at h2;have h3:=hc k o ho hl e he h2.1;rw[h2.2]at h3;exact unlisted hi h3
theorem Inv.set {l:Array Bool} {w:World} {i:Nat} (h:Inv k S S7 l w) (hne:i≠k):Inv k S S7 (l.setIfInBounds i true) w:=⟨fun h0=>h.1 (by rwa [getD_set_ne false hne]at h0),h.2⟩
theorem wpR_first {i:Nat} {oi:Oper} {v:Value} {T:World→Prop} (hi:ops[i]?=some oi) (hs:Region.noSelect ops=true) (hik:i≠k)
 (hT:∀(l:Array Bool) (w:World),Closed md ops l→l.size=ops.size→l.getD i true=false→Inv k S S7 l w→T w)
 (hQ:∀c a w,Q (.panic c) (a.put oi.dst v) w→Q (.panic c) a w) (n:Nat) :
 ∀(l:Array Bool) (a:Act) (w:World),Closed md ops l→l.size=ops.size→(∀j oj,ops[j]?=some oj→j≠i→l.getD j true=false→(∀e∈oj.after,Region.binds md e=true→e.on≠i)→oi.apart ops oj=true)→
  i∈Region.ready md ops l→YieldsIf P ops T oi v a→Inv k S S7 l w→wpR P md ops Q k S S7 n (l.setIfInBounds i true) (a.put oi.dst v) w→wpR P md ops Q k S S7 (n+1) l a w:=by
 have hsel:=Region.noSelect_spec hs
 induction n with
 | zero=>
  intro l a w hc hz _ hr hy hS H;refine⟨fun h=>absurd hr (by rw[h];simp),fun j hj=>?_⟩;rcases Decidable.em (j=i)with rfl|hne
  ·exact hy.wpOp hi (hT l w hc hz (mem_ready.1 hr).1 hS) ⟨hS.set hik,H⟩
  ·have:=ready_mono hj hne
   rw[H.1]at this;exact absurd this (by simp)
 | succ n ih=>
  intro l a w hc hz hfree hr hy hS H;refine⟨fun h=>absurd hr (by rw[h];simp),fun j hj=>?_⟩;have hiu:=(mem_ready.1 hr).1;rcases Decidable.em (j=i)with rfl|hne
  ·exact hy.wpOp hi (hT l w hc hz hiu hS) ⟨hS.set hik,H⟩
  ·obtain⟨hju,oj,hoj,hall⟩:=mem_ready.1 hj
   have hno:∀e∈oj.after,Region.binds md e=true→e.on≠i:=fun e he hb heq=>by
    have h1:=hall e he hb;rw[heq]at h1;exact unlisted hiu h1
   have h2:=wpOp_putIf hoj (hfree j oj hoj hne hju hno) (fun cs b=>hsel i oi cs b hi) (fun cs b=>hsel j oj cs b hoj) hQ hy (H.2 j (ready_mono hj hne));refine wpOp_mono (fun a' w' q=>?_) h2;obtain⟨q1,q2,q3⟩:=q;rw[Array.setIfInBounds_comm _ _ (Ne.symm hne)]at q2 q3;have hI:Inv k S S7 (l.setIfInBounds j true) w':=⟨fun h0=>q2.1 (by rwa [getD_set_ne false hik]),q2.2⟩;refine⟨hI,ih (l.setIfInBounds j true) a' w' (hc.step hj) (by rw[Array.size_setIfInBounds];exact hz) (fun q oq hq hqi hun hn=>hfree q oq hq hqi ?_ hn) (ready_mono hr (Ne.symm hne)) q1 hI q3⟩;rcases Decidable.em (j=q)with rfl|hjq
   ·exact hju
   ·rwa [getD_set_ne true hjq]at hun
theorem zAd {i:Nat} {oi:Oper} {v:Value} {n:Nat} {l:Array Bool} {a:Act} {w:World} (hi:ops[i]?=some oi)
 (hs:Region.noSelect ops=true) (hw:(waits md ops k i && closedB md ops l && (l.size == ops.size) && (i != k))=true) (hf:Region.free md ops l i=true) (hr:(Region.ready md ops l).contains i=true)
 (hQ:∀c a w,Q (.panic c) (a.put oi.dst v) w→Q (.panic c) a w) (hy:YieldsIf P ops S oi v a) (hS:S w∧S7 w)
 (h:wpR P md ops Q k S S7 n (l.setIfInBounds i true) (a.put oi.dst v) w):wpR P md ops Q k S S7 (n+1) l a w:=by
 simp only[Bool.and_eq_true,beq_iff_eq,bne_iff_ne,ne_eq]at hw;obtain⟨⟨⟨w1,w2⟩,w3⟩,w4⟩:=hw;exact wpR_first hi hs w4 (fun l' w' hc hz hu hI=>hI.1 (not_yet hc hz w1 hu)) hQ n l a w (closed_of w2) w3 (Region.free_spec hi hf) (by simpa using hr) hy ⟨fun _=>hS.1,hS.2⟩ h
theorem zAe {i:Nat} {oi:Oper} {v:Value} {n:Nat} {l:Array Bool} {a:Act} {w:World} (hi:ops[i]?=some oi)
 (hs:Region.noSelect ops=true) (hw:(closedB md ops l && (l.size == ops.size) && (i != k))=true) (hf:Region.free md ops l i=true) (hr:(Region.ready md ops l).contains i=true)
 (hQ:∀c a w,Q (.panic c) (a.put oi.dst v) w→Q (.panic c) a w) (hy:YieldsIf P ops S7 oi v a) (hS:S w∧S7 w)
 (h:wpR P md ops Q k S S7 n (l.setIfInBounds i true) (a.put oi.dst v) w):wpR P md ops Q k S S7 (n+1) l a w:=by
 simp only[Bool.and_eq_true,beq_iff_eq,bne_iff_ne,ne_eq]at hw;obtain⟨⟨w2,w3⟩,w4⟩:=hw;exact wpR_first hi hs w4 (fun l' w' hc hz hu hI=>hI.2) hQ n l a w (closed_of w2) w3 (Region.free_spec hi hf) (by simpa using hr) hy ⟨fun _=>hS.1,hS.2⟩ h
theorem zAg {i:Nat} {o:Oper} {n:Nat} {l:Array Bool} {a:Act} {w:World} (hr:Region.ready md ops l=[i]) (ho:ops[i]?=some o) (hg:o.guard=none)
 (h:∀K:Act→World→Prop,(∀a' w',S w'∧S7 w'→wpR P md ops Q k S S7 n (l.setIfInBounds i true) a' w'→K a' w')→Oper.wp P o a w K Q):wpR P md ops Q k S S7 (n+1) l a w:=by
 refine⟨fun h0=>absurd h0 (by rw[hr];simp),fun j hj=>?_⟩;rw[hr]at hj;obtain rfl:=List.mem_singleton.1 hj;unfold wpOp;simp only[ho];have hw:Region.wanted o (yielded ops a.tmps)=true:=by simp[Region.wanted,hg]
 rw[if_pos hw];exact Or.inl (h _ fun a' w' h1 h2=>⟨⟨fun _=>h1.1,h1.2⟩,h2⟩)
theorem zAj {i:Nat} {o:Oper} {n:Nat} {l:Array Bool} {a:Act} {w:World} (hr:Region.ready md ops l=[i]) (ho:ops[i]?=some o) (hg:o.guard=none) (hl:(l.setIfInBounds i true).getD k false=true)
 (h:∀K:Act→World→Prop,(∀a' w',S7 w'→wpR P md ops Q k S S7 n (l.setIfInBounds i true) a' w'→K a' w')→Oper.wp P o a w K Q):wpR P md ops Q k S S7 (n+1) l a w:=by
 refine⟨fun h0=>absurd h0 (by rw[hr];simp),fun j hj=>?_⟩;rw[hr]at hj;obtain rfl:=List.mem_singleton.1 hj;unfold wpOp;simp only[ho];have hw:Region.wanted o (yielded ops a.tmps)=true:=by simp[Region.wanted,hg]
 rw[if_pos hw];exact Or.inl (h _ fun a' w' h1 h2=>⟨⟨fun h0=>(by rw[hl]at h0;cases h0),h1⟩,h2⟩)
theorem zAm {n:Nat} {l:Array Bool} {a:Act} {w:World} (hr:Region.ready md ops l=[]) (h:Q .normal a w):wpR P md ops Q k S S7 n l a w:=by
 cases n with
 | zero=>exact⟨hr,h⟩
 | succ n=>exact⟨fun _=>h,by rw[hr];simp⟩
theorem wT (i:Nat) {oi:Oper} (v:Value) {n:Nat} {l:Array Bool} {a:Act} {w:World} (hi:ops[i]?=some oi) (hy:YieldsIf P ops S oi v a) (hS:S w∧S7 w)
 (h:wpR P md ops Q k S S7 n (l.setIfInBounds i true) (a.put oi.dst v) w) (hs:Region.noSelect ops=true:=by kernel_rfl) (hw:(waits md ops k i && closedB md ops l && (l.size == ops.size) && (i != k))=true:=by kernel_rfl) (hf:Region.free md ops l i=true:=by kernel_rfl) (hr:(Region.ready md ops l).contains i=true:=by kernel_rfl) (hQ:∀c a w,Q (.panic c) (a.put oi.dst v) w→Q (.panic c) a w:=by exact fun _ _ _ h=>h):wpR P md ops Q k S S7 (n+1) l a w:=zAd hi hs hw hf hr hQ hy hS h
theorem wT7 (i:Nat) {oi:Oper} (v:Value) {n:Nat} {l:Array Bool} {a:Act} {w:World} (hi:ops[i]?=some oi) (hy:YieldsIf P ops S7 oi v a) (hS:S w∧S7 w)
 (h:wpR P md ops Q k S S7 n (l.setIfInBounds i true) (a.put oi.dst v) w) (hs:Region.noSelect ops=true:=by kernel_rfl) (hw:(closedB md ops l && (l.size == ops.size) && (i != k))=true:=by kernel_rfl) (hf:Region.free md ops l i=true:=by kernel_rfl) (hr:(Region.ready md ops l).contains i=true:=by kernel_rfl) (hQ:∀c a w,Q (.panic c) (a.put oi.dst v) w→Q (.panic c) a w:=by exact fun _ _ _ h=>h):wpR P md ops Q k S S7 (n+1) l a w:=zAe hi hs hw hf hr hQ hy hS h
theorem wO (i:Nat) {o:Oper} {n:Nat} {l:Array Bool} {a:Act} {w:World} (ho:ops[i]?=some o) (hg:o.guard=none)
 (h:∀K:Act→World→Prop,(∀a' w',S w'∧S7 w'→wpR P md ops Q k S S7 n (l.setIfInBounds i true) a' w'→K a' w')→Oper.wp P o a w K Q) (hr:Region.ready md ops l=[i]:=by kernel_rfl):wpR P md ops Q k S S7 (n+1) l a w:=zAg hr ho hg h
theorem wL (i:Nat) {o:Oper} {n:Nat} {l:Array Bool} {a:Act} {w:World} (ho:ops[i]?=some o) (hg:o.guard=none)
 (h:∀K:Act→World→Prop,(∀a' w',S7 w'→wpR P md ops Q k S S7 n (l.setIfInBounds i true) a' w'→K a' w')→Oper.wp P o a w K Q) (hr:Region.ready md ops l=[i]:=by kernel_rfl) (hl:(l.setIfInBounds i true).getD k false=true:=by kernel_rfl):wpR P md ops Q k S S7 (n+1) l a w:=zAj hr ho hg hl h
theorem wDn {n:Nat} {l:Array Bool} {a:Act} {w:World} (h:Q .normal a w) (hr:Region.ready md ops l=[]:=by kernel_rfl):wpR P md ops Q k S S7 n l a w:=zAm hr h
theorem zAi {id:Nat} {a:Act} {w:World} (k:Nat) (S S7:World→Prop) (n:Nat) (hn:ops.size=n) (hm:P.follows .mixedOrders=true)
 (h:wpR P .any ops Q k S S7 n (Array.replicate n false) a w.drew):(Code.region id ops true).wp P Q a w:=by
 subst hn;exact wp_region_any hm (wpR_any _ _ _ _ h)
end
end Go.Proofs.YtliadckofhblnaaGreatDoor

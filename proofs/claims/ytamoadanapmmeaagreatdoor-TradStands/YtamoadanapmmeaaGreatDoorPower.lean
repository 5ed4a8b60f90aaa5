/- rat.power (167): a natural number to a power, where it is not too large. -/
import Derived.Test.YtamoadanapmmeaaGreatDoorLimb3
import Derived.Test.YtamoadanapmmeaaGreatDoorTell
import Derived.Test.YtamoadanapmmeaaGreatDoorQOps
import Derived.Test.YtamoadanapmmeaaGreatDoorTimes
import Derived.Shelf.Small.Bits
import Derived.Shelf.Small.Wraps
import Derived.Shelf.Strconv.Itoa0
import Derived.Shelf.Strconv.Itoa1
import Derived.Shelf.LaysM
import Derived.Shelf.Strconv.Itoa2
import Derived.Shelf.Strconv.AppendUint10
import Derived.Shelf.Strconv.AppendInt10
import Derived.Shelf.Strings.Prefix
import Derived.Ground.Names2Prog
import Derived.Shelf.Slices.SearchI
import Derived.Test.YtamoadanapmmeaaGreatDoorProg
import Derived.Test.YtamoadanapmmeaaGreatDoorDimOps
import Derived.Test.YtamoadanapmmeaaGreatDoorCopy
import Derived.Test.YtamoadanapmmeaaGreatDoorLehmer
import Derived.Laws.Bits128
import Derived.Test.YtamoadanapmmeaaGreatDoorMade
namespace Go.Proofs.YtamoadanapmmeaaGreatDoor
open Go.RowKit
def IsR (num den:ByteArray) (x:Rat):Prop:=Small x∧num=numT x∧den=denT x
theorem IsR.rt {num den:ByteArray} {x:Rat} (h:IsR num den x):RT num den (decide (x<0)) x.num.natAbs x.den:=by
  obtain ⟨hs,rfl,rfl⟩:=h
  unfold numT denT
  rw[if_pos hs,if_pos hs]
  exact ⟨rfl,rfl,hs.1,hs.2,(Cub.low_of x).1⟩
theorem IsR.size {num den:ByteArray} {x:Rat} (h:IsR num den x):num.size≤601∧den.size≤600:=by
  have r:=h.rt
  rw[r.num,r.den]
  exact ⟨sT_size _ _ r.hn,(tb_digs _ r.hd).2⟩
theorem qread (num den:ByteArray) (x:Rat) (w:World) (h:IsR num den x) :
    Calls Tryz.prog 118 #[.agg #[.string num,.string den]] w fun r w'=>∃ v,r=.returned (.tuple #[v,.bool true])∧QOf w' v x 67∧Below w.heap.size w w':=by
  have r:=h.rt
  have:=read_ok num den _ _ _ w r.num r.den r.hn r.hd r.low.sign (by have:=r.low.pos;omega) r.low.cop
  rwa [(Cub.low_of x).2] at this
structure W2 (w W:World) (x y z t p0 p1 p2 q0 q1 q2:Value):Prop where
  a:T2 W w.heap.size x y
  b:T2 W (w.heap.size+1) z t
  p:FBox W (w.heap.size+1+1) p0 p1 p2
  q:FBox W (w.heap.size+1+1+1) q0 q1 q2
  below:Below w.heap.size w W
theorem W2.later {w W V:World} {x y z t p0 p1 p2 q0 q1 q2:Value} (s:W2 w W x y z t p0 p1 p2 q0 q1 q2) (hb:Below W.heap.size W V):W2 w V x y z t p0 p1 p2 q0 q1 q2 :=
  ⟨s.a.later hb,s.b.later hb,s.p.later hb,s.q.later hb,s.below.trans (hb.mono s.below.size)⟩
theorem W2.first (w:World) (x y z t:Value):W2 w ((((w.alloc (.cells #[x,y] 28)).alloc (.cells #[z,t] 28)).alloc (.cells #[.bool false,.slice none 0 0,.slice none 0 0] 82)).alloc (.cells #[.bool false,.slice none 0 0,.slice none 0 0] 82)) x y z t (.bool false) (.slice none 0 0) (.slice none 0 0) (.bool false) (.slice none 0 0) (.slice none 0 0) :=
  ⟨⟨by simp[go_sem],by simp[go_sem],by simp[go_sem],by simp[go_sem]⟩,⟨by simp[go_sem],by simp[go_sem],by simp[go_sem],by simp[go_sem]⟩,⟨by simp[go_sem],by simp[go_sem],by simp[go_sem],by simp[go_sem],by simp[go_sem],by simp[go_sem]⟩,⟨by simp[go_sem],by simp[go_sem],by simp[go_sem],by simp[go_sem],by simp[go_sem],by simp[go_sem]⟩,
    ((((Below.refl _ _).alloc (Nat.le_refl _) _).alloc (by simp) _).alloc (by simp;omega) _).alloc (by simp;omega) _⟩
theorem FBox.other3 {W:World} {g k:Nat} {x y z:Value} (h:FBox W g x y z) (hk:g≠k) (u v s:Value):FBox (store3 W k u v s) g x y z:=((h.otherAt hk u).otherAt hk v).otherAt hk s
theorem T2.other3 {W:World} {g k:Nat} {x y:Value} (h:T2 W g x y) (hk:g≠k) (u v s:Value):T2 (store3 W k u v s) g x y:=((h.otherAt hk u).otherAt hk v).otherAt hk s
theorem W2.setP {w W:World} {x y z t p0 p1 p2 q0 q1 q2:Value} (s:W2 w W x y z t p0 p1 p2 q0 q1 q2) (u v r:Value):W2 w (store3 W (w.heap.size+1+1) u v r) x y z t u v r q0 q1 q2 :=
  ⟨s.a.other3 (by omega) _ _ _,s.b.other3 (by omega) _ _ _,s.p.store _ _ _,s.q.other3 (by omega) _ _ _,below_store3 s.below (by omega) _ _ _⟩
theorem W2.setQ {w W:World} {x y z t p0 p1 p2 q0 q1 q2:Value} (s:W2 w W x y z t p0 p1 p2 q0 q1 q2) (u v r:Value):W2 w (store3 W (w.heap.size+1+1+1) u v r) x y z t p0 p1 p2 u v r :=
  ⟨s.a.other3 (by omega) _ _ _,s.b.other3 (by omega) _ _ _,s.p.other3 (by omega) _ _ _,s.q.store _ _ _,below_store3 s.below (by omega) _ _ _⟩
theorem QOf.over {W:World} {g:Nat} {b:Bool} {a1 a2:Option Addr} {l1 c1 l2 c2:Nat} (h:FBox W g (.bool b) (.slice a1 l1 c1) (.slice a2 l2 c2)) (u v r:Value) {vv:Value} {x:Rat} {k:Nat}
    (hv:QOf W vv x k):QOf (store3 W g u v r) vv x k:=by
  obtain ⟨b0,n,d,⟨s,t,e,h1,h1'⟩,h2⟩:=hv
  exact ⟨b0,n,d,⟨s,t,e,h.big _ _ _ h1,h.big _ _ _ h1'⟩,h2⟩
set_option maxRecDepth 100000 in
set_option maxHeartbeats 2000000 in
theorem readTwo_ok (n1 d1 n2 d2:ByteArray) (x y:Rat) (w:World) (h1:IsR n1 d1 x) (h2:IsR n2 d2 y) :
    Calls Tryz.prog 67 #[.agg #[.string n1,.string d1],.agg #[.string n2,.string d2]] w fun r w'=>∃ v u,r=.returned (.tuple #[v,u,I 0])∧QOf w' v x 67∧QOf w' u y 67∧Below w.heap.size w w':=by
  obtain ⟨V,hV⟩:∃ V,V=((((w.alloc (.cells #[.string n1,.string d1] 28)).alloc (.cells #[.string n2,.string d2] 28)).alloc (.cells #[.bool false,.slice none 0 0,.slice none 0 0] 82)).alloc (.cells #[.bool false,.slice none 0 0,.slice none 0 0] 82)):=⟨_,rfl⟩
  have HS:Hid (W2 w V (.string n1) (.string d1) (.string n2) (.string d2) (.bool false) (.slice none 0 0) (.slice none 0 0) (.bool false) (.slice none 0 0) (.slice none 0 0)):=by rw[hV];exact W2.first _ _ _ _ _
  have HV:=hide hV
  have HR1:=hide (fun W=>qread n1 d1 x W h1)
  have HR2:=hide (fun W=>qread n2 d2 y W h2)
  clear h1 h2
  go_enter Tryz.func67,Tryz.ntmps67
  go_upto_region 1 with fail
  rw[← un HV]
  clear hV HV
  have t0:=(un HS).a.c0;have t1:=(un HS).a.c1
  go_upto_region 2 with (go_at_call 118;go_must (refine (un HR1 _).mono ?_;rintro e w1 ⟨v1,rfl,hv1,hb1⟩;obtain ⟨b1,i1,i2,i3,i4,i5,i6,rfl⟩:=hv1.form;have HS1:=hide ((un HS).later hb1);have HV1:=hide hv1;clear hv1 hb1 t0 t1;have r0:=(un HS1).p.c0;have r1:=(un HS1).p.c1;have r2:=(un HS1).p.c2;have rf0:=(un HS1).p.f0;have rf1:=(un HS1).p.f1;have rf2:=(un HS1).p.f2))
  obtain ⟨V2,hV2⟩:∃ V2,V2=store3 w1 (w.heap.size+1+1) (.bool b1) (.slice i1 i2 i3) (.slice i4 i5 i6):=⟨_,rfl⟩
  have hV2':V2=((w1.setCell ⟨w.heap.size+1+1,0,none⟩ (.bool b1)).setCell ⟨w.heap.size+1+1,1,none⟩ (.slice i1 i2 i3)).setCell ⟨w.heap.size+1+1,2,none⟩ (.slice i4 i5 i6):=hV2
  have HS2:=hide ((un HS1).setP (.bool b1) (.slice i1 i2 i3) (.slice i4 i5 i6))
  have HV2:=hide ((un HV1).stored (un HS1).p)
  rw[← hV2] at HS2 HV2
  rw[← hV2']
  clear hV2 hV2' HS HS1 HV1 r0 r1 r2 rf0 rf1 rf2
  have t0:=(un HS2).b.c0;have t1:=(un HS2).b.c1
  go_upto_region 3 with (go_at_call 118;go_must (refine (un HR2 _).mono ?_;rintro e w3 ⟨v3,rfl,hv3,hb3⟩;obtain ⟨b3,j1,j2,j3,j4,j5,j6,rfl⟩:=hv3.form;have HS3:=hide ((un HS2).later hb3);have HV3:=hide hv3;have HU3:=hide ((un HV2).later hb3);clear hv3 hb3 t0 t1;have r0:=(un HS3).q.c0;have r1:=(un HS3).q.c1;have r2:=(un HS3).q.c2;have rf0:=(un HS3).q.f0;have rf1:=(un HS3).q.f1;have rf2:=(un HS3).q.f2))
  obtain ⟨V4,hV4⟩:∃ V4,V4=store3 w3 (w.heap.size+1+1+1) (.bool b3) (.slice j1 j2 j3) (.slice j4 j5 j6):=⟨_,rfl⟩
  have hV4':V4=((w3.setCell ⟨w.heap.size+1+1+1,0,none⟩ (.bool b3)).setCell ⟨w.heap.size+1+1+1,1,none⟩ (.slice j1 j2 j3)).setCell ⟨w.heap.size+1+1+1,2,none⟩ (.slice j4 j5 j6):=hV4
  have HS4:=hide ((un HS3).setQ (.bool b3) (.slice j1 j2 j3) (.slice j4 j5 j6))
  have HV4:=hide ((un HV3).stored (un HS3).q)
  have HU4:=hide (QOf.over (un HS3).q (.bool b3) (.slice j1 j2 j3) (.slice j4 j5 j6) (un HU3))
  rw[← hV4] at HS4 HV4 HU4
  rw[← hV4']
  clear hV4 hV4' HS2 HV2 HS3 HV3 HU3 r0 r1 r2 rf0 rf1 rf2
  go_upto_region 5 with fail
  have r0:=(un HS4).p.c0;have r1:=(un HS4).p.c1;have r2:=(un HS4).p.c2;have rf0:=(un HS4).p.f0;have rf1:=(un HS4).p.f1;have rf2:=(un HS4).p.f2
  have s0:=(un HS4).q.c0;have s1:=(un HS4).q.c1;have s2:=(un HS4).q.c2;have sf0:=(un HS4).q.f0;have sf1:=(un HS4).q.f1;have sf2:=(un HS4).q.f2
  go_region
  obtain ⟨V5,hV5⟩:∃ V5,V5=(store3 (store3 V4 (w.heap.size+1+1) (.bool b1) (.slice i1 i2 i3) (.slice i4 i5 i6)) (w.heap.size+1+1+1) (.bool b3) (.slice j1 j2 j3) (.slice j4 j5 j6)).drew:=⟨_,rfl⟩
  have hV5':V5=((((((V4.setCell ⟨w.heap.size+1+1,0,none⟩ (.bool b1)).setCell ⟨w.heap.size+1+1,1,none⟩ (.slice i1 i2 i3)).setCell ⟨w.heap.size+1+1,2,none⟩ (.slice i4 i5 i6)).setCell ⟨w.heap.size+1+1+1,0,none⟩ (.bool b3)).setCell ⟨w.heap.size+1+1+1,1,none⟩ (.slice j1 j2 j3)).setCell ⟨w.heap.size+1+1+1,2,none⟩ (.slice j4 j5 j6)).drew:=hV5
  have hm:=(un HS4).setP (.bool b1) (.slice i1 i2 i3) (.slice i4 i5 i6)
  have HS5:=hide ((hm.setQ (.bool b3) (.slice j1 j2 j3) (.slice j4 j5 j6)).later ((Below.refl _ _).drew))
  have HV5:=hide ((QOf.over hm.q (.bool b3) (.slice j1 j2 j3) (.slice j4 j5 j6) (QOf.over (un HS4).p (.bool b1) (.slice i1 i2 i3) (.slice i4 i5 i6) (un HV4))).later ((Below.refl _ _).drew))
  have HU5:=hide ((QOf.over hm.q (.bool b3) (.slice j1 j2 j3) (.slice j4 j5 j6) (QOf.over (un HS4).p (.bool b1) (.slice i1 i2 i3) (.slice i4 i5 i6) (un HU4))).later ((Below.refl _ _).drew))
  rw[← hV5] at HS5 HV5 HU5
  rw[← hV5']
  clear hV5 hV5' hm HS4 HV4 HU4 r0 r1 r2 rf0 rf1 rf2 s0 s1 s2 sf0 sf1 sf2
  have r0:=(un HS5).p.c0;have r1:=(un HS5).p.c1;have r2:=(un HS5).p.c2;have s0:=(un HS5).q.c0;have s1:=(un HS5).q.c1;have s2:=(un HS5).q.c2
  go_wp2_with fail
  exact bodyPost_ret (v:=.tuple #[.agg #[.bool b1,.slice i1 i2 i3,.slice i4 i5 i6],.agg #[.bool b3,.slice j1 j2 j3,.slice j4 j5 j6],I 0]) (by simp[results,Tryz.results67,go_sem,r0,r1,r2,s0,s1,s2]) rfl ⟨_,_,rfl,un HU5,un HV5,(un HS5).below⟩
end Go.Proofs.YtamoadanapmmeaaGreatDoor

namespace Go.Proofs.YtamoadanapmmeaaGreatDoor
open Go.RowKit
structure O3 (w W:World) (x y z t:Value):Prop where
  a:T2 W w.heap.size x y
  b:T2 W (w.heap.size+1) z t
  r:T2 W (w.heap.size+1+1) (.string ⟨#[]⟩) (.string ⟨#[]⟩)
  below:Below w.heap.size w W
theorem O3.later {w W V:World} {x y z t:Value} (s:O3 w W x y z t) (hb:Below W.heap.size W V):O3 w V x y z t :=
  ⟨s.a.later hb,s.b.later hb,s.r.later hb,s.below.trans (hb.mono s.below.size)⟩
theorem O3.first (w:World) (x y z t:Value):O3 w (((w.alloc (.cells #[x,y] 28)).alloc (.cells #[z,t] 28)).alloc (.cells #[.string ⟨#[]⟩,.string ⟨#[]⟩] 28)) x y z t :=
  ⟨⟨by simp[go_sem],by simp[go_sem],by simp[go_sem],by simp[go_sem]⟩,⟨by simp[go_sem],by simp[go_sem],by simp[go_sem],by simp[go_sem]⟩,⟨by simp[go_sem],by simp[go_sem],by simp[go_sem],by simp[go_sem]⟩,
    (((Below.refl _ _).alloc (Nat.le_refl _) _).alloc (by simp) _).alloc (by simp;omega) _⟩
def Ans (f:Nat) (args:Array Value) (w:World) (s t:ByteArray) (e:Int):Prop :=
  Calls Tryz.prog f args w fun r w'=>r=.returned (.tuple #[.agg #[.string s,.string t],I e])∧Below w.heap.size w w'
end Go.Proofs.YtamoadanapmmeaaGreatDoor

namespace Go.Proofs.YtamoadanapmmeaaGreatDoor
open Go.RowKit
set_option maxRecDepth 100000 in
set_option maxHeartbeats 2000000 in
theorem qmul (x y:Value) (p q:Rat) (k:Nat) (w:World) (hx:QOf w x p k) (hy:QOf w y q k) (hk:k+k≤100000) :
    Calls Tryz.prog 65 #[x,y] w fun r w'=>∃ v,r=.returned v∧QOf w' v (p*q) (k+k)∧Below w.heap.size w w':=by
  obtain ⟨b,a1,l1,c1,a2,l2,c2,rfl⟩:=hx.form
  obtain ⟨c,a3,l3,c3,a4,l4,c4,rfl⟩:=hy.form
  obtain ⟨V,hV⟩:∃ V,V=(((w.alloc (.cells #[.bool b,.slice a1 l1 c1,.slice a2 l2 c2] 82)).alloc (.cells #[.bool c,.slice a3 l3 c3,.slice a4 l4 c4] 82)).alloc (.cells #[.bool false,.slice none 0 0,.slice none 0 0] 82)):=⟨_,rfl⟩
  have HS:Hid (AS w V (.bool b) (.slice a1 l1 c1) (.slice a2 l2 c2) (.bool c) (.slice a3 l3 c3) (.slice a4 l4 c4) []):=by rw[hV];exact AS.first _ _ _ _ _ _ _
  have HX:=hide (hx.later (un HS).below)
  have HY:=hide (hy.later (un HS).below)
  have HV:=hide hV
  have HK:=hide hk
  have HT:Hid (Calls Tryz.prog 147 #[.slice (some ⟨V.heap.size,0,none⟩) 2 2] (V.alloc (.cells #[.bool b,.slice a1 l1 c1,.slice a2 l2 c2,.bool c,.slice a3 l3 c3,.slice a4 l4 c4] 82)) fun r w'=>∃ v,r=.returned v∧QOf w' v (p*q) (k+k)∧Below V.heap.size V w'):=by
    have hb:Below V.heap.size V (V.alloc (.cells #[.bool b,.slice a1 l1 c1,.slice a2 l2 c2,.bool c,.slice a3 l3 c3,.slice a4 l4 c4] 82)):=(Below.refl _ _).alloc (Nat.le_refl _) _
    refine (qtimes V.heap.size b c a1 a2 a3 a4 l1 c1 l2 c2 l3 c3 l4 c4 p q k _ (by simp[go_sem]) (by simp[go_sem]) (by simp[go_sem]) (by simp[go_sem]) (by simp[go_sem]) (by simp[go_sem]) ((un HX).later hb) ((un HY).later hb) hk).mono ?_
    rintro r w' ⟨v,rfl,hv,hb'⟩
    exact ⟨v,rfl,hv,hb.trans (hb'.mono hb.size)⟩
  clear hx hy hk hV
  go_enter Tryz.func65,Tryz.ntmps65
  go_upto_region 1 with fail
  rw[← un HV]
  clear HV
  have t0:=(un HS).x.c0;have t1:=(un HS).x.c1;have t2:=(un HS).x.c2;have t3:=(un HS).y.c0;have t4:=(un HS).y.c1;have t5:=(un HS).y.c2
  go_wp2_with (go_at_call 147;go_must (refine (un HT).mono ?_;rintro e w1 ⟨v1,rfl,hv1,hb1⟩;obtain ⟨b1,i1,i2,i3,i4,i5,i6,rfl⟩:=hv1.form;have HS1:=hide ((un HS).later hb1);have HV1:=hide hv1;clear hv1 hb1 t0 t1 t2 t3 t4 t5;have r0:=(un HS1).r.c0;have r1:=(un HS1).r.c1;have r2:=(un HS1).r.c2;have rf0:=(un HS1).r.f0;have rf1:=(un HS1).r.f1;have rf2:=(un HS1).r.f2))
  have hS:=(un HS1).r.store (.bool b1) (.slice i1 i2 i3) (.slice i4 i5 i6)
  have hb:Below w.heap.size w (store3 w1 (w.heap.size+1+1) (.bool b1) (.slice i1 i2 i3) (.slice i4 i5 i6)):=below_store3 (un HS1).below (by omega) _ _ _
  have u0:=hS.c0;have u1:=hS.c1;have u2:=hS.c2
  exact bodyPost_ret (v:=.agg #[.bool b1,.slice i1 i2 i3,.slice i4 i5 i6]) (w:=store3 w1 (w.heap.size+1+1) (.bool b1) (.slice i1 i2 i3) (.slice i4 i5 i6)) (by simp[results,Tryz.results65,go_sem,u0,u1,u2]) rfl ⟨_,rfl,(un HV1).stored (un HS1).r,hb⟩
set_option maxRecDepth 100000 in
set_option maxHeartbeats 2000000 in
theorem ofTwo95_ok (n1 d1 n2 d2:ByteArray) (x y:Rat) (w:World) (h1:IsR n1 d1 x) (h2:IsR n2 d2 y) (htab:Tab w):Ans 64 #[.agg #[.string n1,.string d1],.agg #[.string n2,.string d2],.func (Fn.func 65) #[] #[]] w (numT (x*y)) (denT (x*y)) (errT (x*y)):=by
  unfold Ans
  obtain ⟨V,hV⟩:∃ V,V=((w.alloc (.cells #[.string n1,.string d1] 28)).alloc (.cells #[.string n2,.string d2] 28)).alloc (.cells #[.string ⟨#[]⟩,.string ⟨#[]⟩] 28):=⟨_,rfl⟩
  have HS:Hid (O3 w V (.string n1) (.string d1) (.string n2) (.string d2)):=by rw[hV];exact O3.first _ _ _ _ _
  have HV:=hide hV
  have HR:=hide (readTwo_ok n1 d1 n2 d2 x y V h1 h2)
  have HT:=hide (htab.later (un HS).below)
  clear h1 h2 htab
  go_enter Tryz.func64,Tryz.ntmps64
  go_upto_region 1 with fail
  rw[← un HV]
  clear hV HV
  have t0:=(un HS).a.c0;have t1:=(un HS).a.c1;have t2:=(un HS).b.c0;have t3:=(un HS).b.c1
  go_upto_region 2 with (go_at_call 67;go_must (refine (un HR).mono ?_;rintro e w1 ⟨v1,v2,rfl,hv1,hv2,hb1⟩;obtain ⟨b1,i1,i2,i3,i4,i5,i6,rfl⟩:=hv1.form;obtain ⟨b2,j1,j2,j3,j4,j5,j6,rfl⟩:=hv2.form;have HS1:=hide ((un HS).later hb1);have HV1:=hide hv1;have HV2:=hide hv2;have HT1:=hide ((un HT).later hb1);clear hv1 hv2 hb1 t0 t1 t2 t3))
  obtain ⟨V2,hV2⟩:∃ V2,V2=(w1.alloc (.cells #[.bool b1,.slice i1 i2 i3,.slice i4 i5 i6] 82)).alloc (.cells #[.bool b2,.slice j1 j2 j3,.slice j4 j5 j6] 82):=⟨_,rfl⟩
  have hb:Below w1.heap.size w1 V2:=by rw[hV2];exact ((Below.refl _ _).alloc (Nat.le_refl _) _).alloc (by simp) _
  have HS2:=hide ((un HS1).later hb);have HX:=hide ((un HV1).later hb);have HY:=hide ((un HV2).later hb);have HT2:=hide ((un HT1).later hb)
  have HP:Hid (FBox V2 w1.heap.size (.bool b1) (.slice i1 i2 i3) (.slice i4 i5 i6)):=by rw[hV2];exact (FBox.new _ _ _ _).later ((Below.refl _ _).alloc (Nat.le_refl _) _)
  have HQ:Hid (FBox V2 (w1.heap.size+1) (.bool b2) (.slice j1 j2 j3) (.slice j4 j5 j6)):=by
    rw[hV2]
    have:=FBox.new (w1.alloc (.cells #[.bool b1,.slice i1 i2 i3,.slice i4 i5 i6] 82)) (.bool b2) (.slice j1 j2 j3) (.slice j4 j5 j6)
    rwa [show (w1.alloc (.cells #[.bool b1,.slice i1 i2 i3,.slice i4 i5 i6] 82)).heap.size=w1.heap.size+1 by simp] at this
  rw[← hV2]
  clear hV2 hb HS HS1 HV1 HV2 HT HT1 HR
  generalize w1.heap.size=g8 at *
  have t0:=(un HP).c0;have t1:=(un HP).c1;have t2:=(un HP).c2;have t3:=(un HQ).c0;have t4:=(un HQ).c1;have t5:=(un HQ).c2
  go_wp2_with (first
    | (go_at_call 65;go_must (refine (qmul _ _ x y 67 _ (un HX) (un HY) (by decide)).mono ?_;rintro e w3 ⟨v3,rfl,hv3,hb3⟩;have HV3:=hide hv3;have HS3:=hide ((un HS2).later hb3);have HT3:=hide ((un HT2).later hb3);clear hv3 hb3 t0 t1 t2 t3 t4 t5))
    | (go_at_call 55;go_must (refine (qtell _ _ (67+67) _ (un HV3) (by decide) (un HT3)).mono ?_;rintro e w4 ⟨rfl,hb4⟩;have HS4:=hide ((un HS3).later hb4);clear hb4;have r0:=(un HS4).r.c0;have r1:=(un HS4).r.c1;have rf0:=(un HS4).r.f0;have rf1:=(un HS4).r.f1)))
  have hS:=(un HS4).r.store (.string (numT (x*y))) (.string (denT (x*y)))
  have hb:Below w.heap.size w (store2 w4 (w.heap.size+1+1) (.string (numT (x*y))) (.string (denT (x*y)))):=below_store2 (un HS4).below (by omega) _ _
  have u0:=hS.c0;have u1:=hS.c1
  exact bodyPost_ret (v:=.tuple #[.agg #[.string (numT (x*y)),.string (denT (x*y))],I (errT (x*y))]) (w:=store2 w4 (w.heap.size+1+1) (.string (numT (x*y))) (.string (denT (x*y)))) (by simp[results,Tryz.results64,go_sem,u0,u1]) rfl ⟨rfl,hb⟩
set_option maxRecDepth 100000 in
set_option maxHeartbeats 2000000 in
theorem rmul_of (n1 d1 n2 d2 s t:ByteArray) (e:Int) (w:World) (h:∀ W,Below w.heap.size w W→Ans 64 #[.agg #[.string n1,.string d1],.agg #[.string n2,.string d2],.func (Fn.func 65) #[] #[]] W s t e):Ans 28 #[.agg #[.string n1,.string d1],.agg #[.string n2,.string d2]] w s t e:=by
  unfold Ans at *
  obtain ⟨V,hV⟩:∃ V,V=((w.alloc (.cells #[.string n1,.string d1] 28)).alloc (.cells #[.string n2,.string d2] 28)).alloc (.cells #[.string ⟨#[]⟩,.string ⟨#[]⟩] 28):=⟨_,rfl⟩
  have HS:Hid (O3 w V (.string n1) (.string d1) (.string n2) (.string d2)):=by rw[hV];exact O3.first _ _ _ _ _
  have HV:=hide hV
  have HR:=hide (h V (un HS).below)
  clear h
  go_enter Tryz.func28,Tryz.ntmps28
  go_upto_region 1 with fail
  rw[← un HV]
  clear hV HV
  have t0:=(un HS).a.c0;have t1:=(un HS).a.c1;have t2:=(un HS).b.c0;have t3:=(un HS).b.c1
  go_wp2_with (go_at_call 64;go_must (refine (un HR).mono ?_;rintro e w4 ⟨rfl,hb4⟩;have HS4:=hide ((un HS).later hb4);clear hb4 t0 t1 t2 t3;have r0:=(un HS4).r.c0;have r1:=(un HS4).r.c1;have rf0:=(un HS4).r.f0;have rf1:=(un HS4).r.f1))
  have hS:=(un HS4).r.store (.string s) (.string t)
  have hb:Below w.heap.size w (store2 w4 (w.heap.size+1+1) (.string s) (.string t)):=below_store2 (un HS4).below (by omega) _ _
  have u0:=hS.c0;have u1:=hS.c1
  exact bodyPost_ret (v:=.tuple #[.agg #[.string s,.string t],I e]) (w:=store2 w4 (w.heap.size+1+1) (.string s) (.string t)) (by simp[results,Tryz.results28,go_sem,u0,u1]) rfl ⟨rfl,hb⟩
theorem rmul_ok (n1 d1 n2 d2:ByteArray) (x y:Rat) (w:World) (h1:IsR n1 d1 x) (h2:IsR n2 d2 y) (htab:Tab w):Ans 28 #[.agg #[.string n1,.string d1],.agg #[.string n2,.string d2]] w (numT (x*y)) (denT (x*y)) (errT (x*y)) :=
  rmul_of n1 d1 n2 d2 _ _ _ w (fun W hb=>ofTwo95_ok n1 d1 n2 d2 x y W h1 h2 (htab.later hb))
end Go.Proofs.YtamoadanapmmeaaGreatDoor

namespace Go.Proofs
open Go.Shelf
def Tryz.lays125_ren:Go.Shelf.Ren:=⟨fun|125=>364|128=>372|129=>304|n=>n,fun|46=>335|3=>3|51=>309|53=>168|4=>4|5=>5|9=>9|n=>n,fun|n=>n⟩
theorem Tryz.lays125:Go.Proofs.Lays.n125 Tryz.prog Tryz.lays125_ren:={
  mixed:=by kernel_rfl
  f125:=Tryz.func364.trans (congrArg some (by kernel_rfl))
  f128:=Tryz.func372.trans (congrArg some (by kernel_rfl))
  f129:=Tryz.func304.trans (congrArg some (by kernel_rfl))
  t3:=Tryz.underlying3
  a3:=Tryz.isAgg3
  z3:=Tryz.sizeOf3
  v3:=Tryz.zeroValue3
  t4:=Tryz.underlying4
  a4:=Tryz.isAgg4
  z4:=Tryz.sizeOf4
  v4:=Tryz.zeroValue4
  t5:=Tryz.underlying5
  a5:=Tryz.isAgg5
  z5:=Tryz.sizeOf5
  v5:=Tryz.zeroValue5
  t9:=Tryz.underlying9
  a9:=Tryz.isAgg9
  z9:=Tryz.sizeOf9
  v9:=Tryz.zeroValue9
  t46:=Tryz.underlying335
  a46:=Tryz.isAgg335
  z46:=Tryz.sizeOf335
  v46:=Tryz.zeroValue335
  t51:=Tryz.underlying309
  a51:=Tryz.isAgg309
  z51:=Tryz.sizeOf309
  v51:=Tryz.zeroValue309
  t53:=Tryz.underlying168
  a53:=Tryz.isAgg168
  z53:=Tryz.sizeOf168
  v53:=Tryz.zeroValue168 }
theorem Tryz.bits_Len (x:Int) (w:World) (h0:0≤x) (h1:x≤18446744073709551615) :
    Calls Tryz.prog 364 #[.int .u64 x] w fun e w'=>e=.returned (.int .i64 (Lib.bitLen x.toNat))∧w'=w:=Any.bits_Len Tryz.lays125 x w h0 h1
end Go.Proofs

namespace Go.Proofs.YtamoadanapmmeaaGreatDoor
open Go.RowKit
theorem mulB (x y:Value) (m n r k:Nat) (w:World) (hx:IsBig w x m) (hy:IsBig w y n) (hk:k≤1000000) (hm:m<1000000000 ^ k) (hn:n<1000000000 ^ k) (hr:r=m*n) :
    Calls Tryz.prog 151 #[x,y] w fun e w'=>∃ a l c,e=.returned (.agg #[.slice a l c])∧IsBig w' (.agg #[.slice a l c]) r∧Below w.heap.size w w':=by
  subst hr
  refine (mul_any x y m n k w hx hy hk hm hn).mono ?_
  rintro e w' ⟨v,rfl,hv,hb⟩
  obtain ⟨a,n,c,rfl⟩:=hv.shape
  exact ⟨a,n,c,rfl,hv,hb⟩
theorem powLt (m n q M:Nat) (h:q≤n) (hM:m ^ n<M) (h1:1<M):m ^ q<M:=by
  by_cases h0:m=0
  · subst h0
    cases q with
    | zero=>simpa using h1
    | succ q=>rw[Nat.zero_pow (by omega)];omega
  · exact Nat.lt_of_le_of_lt (Nat.pow_le_pow_right (by omega) h) hM
theorem half_step (n i:Nat):n / 2 ^ i=2*(n / 2 ^ (i+1))+(n / 2 ^ i) % 2:=by
  rw[Nat.pow_succ,← Nat.div_div_eq_div_mul];omega
theorem pow_even (m n i:Nat) (h:(n / 2 ^ i) % 2=0):m ^ (n / 2 ^ i)=m ^ (n / 2 ^ (i+1))*m ^ (n / 2 ^ (i+1)):=by
  rw[← Nat.pow_add];congr 1;have:=half_step n i;omega
theorem pow_odd (m n i:Nat) (h:(n / 2 ^ i) % 2=1):m ^ (n / 2 ^ i)=m ^ (n / 2 ^ (i+1))*m ^ (n / 2 ^ (i+1))*m:=by
  rw[← Nat.pow_add,← Nat.pow_succ];congr 1;have:=half_step n i;omega
theorem bitLen_ok (n:Nat) (hn:n≤9223372036854775807):Lib.bitLen n≤64∧n / 2 ^ Lib.bitLen n=0:=by
  by_cases h0:n=0
  · subst h0
    exact ⟨by decide,by simp⟩
  · obtain ⟨h1,h2,h3⟩:=Lib.bitLenAux_bounds 64 n (by omega) h0
    have e:Lib.bitLen n=Lib.bitLenAux 64 n:=rfl
    rw[e]
    refine ⟨?_,Nat.div_eq_of_lt (by simpa using h3)⟩
    apply Decidable.byContradiction
    intro hc
    have h4:2 ^ 64≤2 ^ (Lib.bitLenAux 64 n - 1):=Nat.pow_le_pow_right (by decide) (by omega)
    omega
theorem and_one' (x:Int):bits .and .i64 x 1=x % 2:=by
  have h1:(BitVec.ofInt 64 1).toNat=2 ^ 1 - 1:=by decide
  have key:(BitVec.ofInt 64 x &&& BitVec.ofInt 64 1).toNat=(x % ((2 ^ 64:Nat):Int)).toNat % 2 ^ 1:=by
    rw[BitVec.toNat_and,BitVec.toNat_ofInt,h1,Nat.and_two_pow_sub_one_eq_mod]
  show IntKind.i64.wrap ((BitVec.ofInt 64 x &&& BitVec.ofInt 64 1).toNat:Nat)=x % 2
  rw[key,IntKind.wrap_i64]
  omega
theorem and_one (n j:Nat):bits BinOp.and IntKind.i64 ((n:Int) / 2 ^ j) 1=(((n / 2 ^ j) % 2:Nat):Int):=by
  rw[and_one']
  push_cast
  rfl
set_option maxRecDepth 100000 in
set_option maxHeartbeats 800000 in
theorem bigPow_any (x:Value) (m n k:Nat) (w:World) (hx:IsBig w x m) (hn:n≤9223372036854775807) (hk1:1≤k) (hk:k≤1000000) (hP:m ^ n<1000000000 ^ k) (hm:m<1000000000 ^ k) :
    Calls Tryz.prog 301 #[x,I (n:Int)] w fun e w'=>∃ a l c,e=.returned (.agg #[.slice a l c])∧IsBig w' (.agg #[.slice a l c]) (m ^ n)∧Below w.heap.size w w':=by
  obtain ⟨xa,xn,xc,rfl⟩:=hx.shape
  have HX:=hide hx
  have HP:=hide hP
  have HM:=hide hm
  have H92:=hide (fun W=>Tryz.bits_Len (n:Int) W (by omega) (by omega))
  clear hx hP hm
  obtain ⟨hL,hL0⟩:=bitLen_ok n hn
  have e9:((n:Int)).toNat=n:=by simp
  rw[e9] at H92
  clear e9
  generalize Lib.bitLen n=L at *
  have HL0:=hide hL0
  clear hL0
  go_enter Tryz.func301,Tryz.ntmps301
  go_wp2_with (first
    | (go_at_call 210;refine (bigOf_any 1 _ (by decide)).mono ?_;rintro e w2 ⟨ba,bn,bc,rfl,hbig,hb2⟩;have HBIG:=hide hbig;clear hbig)
    | (go_at_call 364;refine (un H92 _).mono ?_;rintro e w' ⟨rfl,rfl⟩))
  have hs2:w.heap.size+2≤w2.heap.size:=by have:=hb2.size;simpa using this
  have hc0:w2.cell? ⟨w.heap.size,0,none⟩=some (.slice xa xn xc):=by rw[hb2.cell (p:=⟨w.heap.size,0,none⟩) (by simp;omega)];simp
  have hc1:w2.cell? ⟨w.heap.size+1,0,none⟩=some (.slice none 0 0):=by rw[hb2.cell (p:=⟨w.heap.size+1,0,none⟩) (by simp)];simp
  have hf1:w2.frozen? ⟨w.heap.size+1,0,none⟩=false:=by rw[hb2.frozen (p:=⟨w.heap.size+1,0,none⟩) (by simp)];simp
  have hbw:Below w.heap.size w w2:=(((Below.refl _ _).alloc (Nat.le_refl _) _).alloc (by simp) _).trans (hb2.mono (by simp;omega))
  have HX2:=hide ((un HX).later hbw)
  go_loopw [6] (fun t wr=>∃ (i:Nat) (pa:Option Addr) (pn pc:Nat),i≤64∧t=I ((i:Int) - 1)∧wr.cell? ⟨w2.heap.size,0,none⟩=some (.slice pa pn pc)∧wr.frozen? ⟨w2.heap.size,0,none⟩=false∧Hid (IsBig wr (.agg #[.slice pa pn pc]) (m ^ (n / 2 ^ i)))∧Below w2.heap.size w2 wr) (fun t _=>(intOf t+1).toNat)
  case atStart=>exact ⟨L,ba,bn,bc,hL,by go_num,World.cell?_alloc_at _ _ _ _ rfl,World.frozen?_alloc_at _ _ _ _ rfl,by rw[un HL0];exact (un HBIG).later ((Below.refl _ _).alloc (Nat.le_refl _) _),(Below.refl _ _).alloc (Nat.le_refl _) _⟩
  case round =>
    obtain ⟨i,pa,pn,pc,hi,rfl,hcell,hfr,HB,hbl⟩:=hrel
    by_cases h0:0<i
    · obtain ⟨j,rfl⟩:∃ j,i=j+1:=⟨i - 1,by omega⟩
      have e6:((j+1:Nat):Int) - 1=(j:Int):=by omega
      rw[e6]
      clear e6
      have h1:1<1000000000 ^ k:=Nat.one_lt_pow (by omega) (by decide)
      have hst:=half_step n j
      have hdl:n / 2 ^ j≤n:=Nat.div_le_self _ _
      have B1:=powLt m n (n / 2 ^ (j+1)) _ (by omega) (un HP) h1
      have B2:m ^ (n / 2 ^ (j+1))*m ^ (n / 2 ^ (j+1))<1000000000 ^ k:=by rw[← Nat.pow_add];exact powLt m n _ _ (by omega) (un HP) h1
      have HE:=hide (pow_even m n j)
      have HO:=hide (pow_odd m n j)
      generalize m ^ (n / 2 ^ (j+1))=Q at *
      have H1:=hide (fun W v (hv:IsBig W v Q)=>mulB v v Q Q (Q*Q) k W hv hv hk B1 B1 rfl)
      have H2:=hide (fun W v x (hv:IsBig W v (Q*Q)) (hx:IsBig W x m)=>mulB v x (Q*Q) m (Q*Q*m) k W hv hx hk B2 (un HM) rfl)
      clear B1 B2 h1 hst hdl
      have hg:w2.heap.size<wr.heap.size:=World.block_lt_of_cell? _ _ hcell
      have hc0r:=(hbl.cell (p:=⟨w.heap.size,0,none⟩) (by simp;omega)).trans hc0
      have hand:=and_one n j
      by_cases hbit:(n / 2 ^ j) % 2=1
      · rw[hbit] at hand
        rw[← un HO hbit] at H2
        go_wp2_with (first
          | (go_at_call_of 151 (Value.agg #[Value.slice pa pn pc]);refine (un H1 _ _ (un HB)).mono ?_;rintro e w3 ⟨ya,yn,yc,rfl,hy,hb3⟩;have HY:=hide (hy.box (.slice ya yn yc) (box_later hb3 hg hcell hfr).1 (no_int _ _ _));clear hy;obtain ⟨hcell3,hfr3⟩:=box_later hb3 hg hcell hfr;have hcell4:=World.cell?_setCell_same w3 ⟨w2.heap.size,0,none⟩ (.slice ya yn yc) hcell3;have hfr4:(w3.setCell ⟨w2.heap.size,0,none⟩ (.slice ya yn yc)).frozen? ⟨w2.heap.size,0,none⟩=false:=by rw[World.frozen?_setCell];exact hfr3
             have hb4:Below w2.heap.size w2 (w3.setCell ⟨w2.heap.size,0,none⟩ (.slice ya yn yc)):=(hbl.trans (hb3.mono hbl.size)).setCell (Nat.le_refl _) _
             have hc04:=(hb4.cell (p:=⟨w.heap.size,0,none⟩) (by simp;omega)).trans hc0)
          | (go_at_call_of 151 (Value.agg #[Value.slice xa xn xc]);refine (un H2 _ _ _ (un HY) ((un HX2).later hb4)).mono ?_;rintro e w5 ⟨za,zn,zc,rfl,hz,hb5⟩;obtain ⟨hcell5,hfr5⟩:=box_later hb5 (World.block_lt_of_cell? _ _ hcell4) hcell4 hfr4;have HZ:=hide (hz.box (.slice za zn zc) hcell5 (no_int _ _ _));clear hz))
        go_roundw
        case rel=>exact ⟨j,za,zn,zc,by omega,by go_num,World.cell?_setCell_same _ _ _ hcell5,by rw[World.frozen?_setCell];exact hfr5,HZ,(hb4.trans (hb5.mono hb4.size)).setCell (Nat.le_refl _) _⟩
        case measure=>simp[intOf]
      · have hbit0:(n / 2 ^ j) % 2=0:=by omega
        rw[hbit0] at hand
        rw[← un HE hbit0] at H1
        go_wp2_with (first
          | (go_at_call_of 151 (Value.agg #[Value.slice pa pn pc]);refine (un H1 _ _ (un HB)).mono ?_;rintro e w3 ⟨ya,yn,yc,rfl,hy,hb3⟩;have HY:=hide (hy.box (.slice ya yn yc) (box_later hb3 hg hcell hfr).1 (no_int _ _ _));clear hy;obtain ⟨hcell3,hfr3⟩:=box_later hb3 hg hcell hfr))
        go_roundw
        case rel=>exact ⟨j,ya,yn,yc,by omega,by go_num,World.cell?_setCell_same _ _ _ hcell3,by rw[World.frozen?_setCell];exact hfr3,HY,(hbl.trans (hb3.mono hbl.size)).setCell (Nat.le_refl _) _⟩
        case measure=>simp[intOf]
    · have hi0:i=0:=by omega
      subst hi0
      have HB':Hid (IsBig wr (.agg #[.slice pa pn pc]) (m ^ n)):=by have:=un HB;rw[Nat.pow_zero,Nat.div_one] at this;exact this
      have hc1r:=(hbl.cell (p:=⟨w.heap.size+1,0,none⟩) (by simp;omega)).trans hc1
      have hf1r:=(hbl.frozen (p:=⟨w.heap.size+1,0,none⟩) (by simp;omega)).trans hf1
      go_wp2
      refine bodyPost_ret (v:=.agg #[.slice pa pn pc]) (by simp[results,Tryz.results301,go_sem,hc1r]) rfl ⟨_,_,_,rfl,?_,?_⟩
      · exact (un HB').box _ hc1r (no_int _ _ _)
      · exact (hbw.trans (hbl.mono (by omega))).setCell (by simp) _
end Go.Proofs.YtamoadanapmmeaaGreatDoor

namespace Go.Proofs.YtamoadanapmmeaaGreatDoor
open Go.RowKit
set_option maxRecDepth 100000 in
set_option maxHeartbeats 2000000 in
theorem power_of (x:Value) (m n M L1 L2:Nat) (w:World) (hx:IsBig w x m) (hn:n≤4096) (hM:m ^ n=M) (h67:m<1000000000 ^ 67) (hP67:m ^ n<1000000000 ^ 67) (hL1:Lib.nDigits m=L1) (hL2:Lib.nDigits M=L2) (hl1:L1≤600) (hl2:L2≤600) (hq:((L1:Int) - 1)*(n:Int)<600) (hq0:-5000≤((L1:Int) - 1)*(n:Int)) :
    Calls Tryz.prog 269 #[x,I (n:Int)] w fun e w'=>∃ a l c,e=.returned (.tuple #[.agg #[.slice a l c],.bool true])∧IsBig w' (.agg #[.slice a l c]) M∧Below w.heap.size w w':=by
  obtain ⟨xa,xn,xc,rfl⟩:=hx.shape
  have HLN:Hid (∀ W,IsBig W (.agg #[.slice xa xn xc]) m→Calls Tryz.prog 119 #[.agg #[.slice xa xn xc]] W fun e w'=>e=.returned (I (L1:Int))∧Below W.heap.size W w'):=fun W h=>by have:=len_any _ m 67 W h (by decide) h67;rw[hL1] at this;exact this
  have HLM:Hid (∀ W v,IsBig W v M→Calls Tryz.prog 119 #[v] W fun e w'=>e=.returned (I (L2:Int))∧Below W.heap.size W w'):=fun W v h=>by have:=len_any v M 67 W h (by decide) (by rw[← hM];exact hP67);rw[hL2] at this;exact this
  have HPW:Hid (∀ W,IsBig W (.agg #[.slice xa xn xc]) m→Calls Tryz.prog 301 #[.agg #[.slice xa xn xc],I (n:Int)] W fun e w'=>∃ a l c,e=.returned (.agg #[.slice a l c])∧IsBig w' (.agg #[.slice a l c]) M∧Below W.heap.size W w'):=fun W h=>by have:=bigPow_any _ m n 67 W h (by omega) (by decide) (by decide) hP67 h67;rw[hM] at this;exact this
  obtain ⟨V,hV⟩:∃ V,V=(w.alloc (.cells #[.slice xa xn xc] 80)).alloc (.cells #[.slice none 0 0] 80):=⟨_,rfl⟩
  have HW:Hid (Below w.heap.size w V):=by rw[hV];exact ((Below.refl _ _).alloc (Nat.le_refl _) _).alloc (by simp) _
  have HA:Hid (Box V w.heap.size (.slice xa xn xc)):=by rw[hV];exact ⟨by simp[go_sem],by simp[go_sem]⟩
  have HR:Hid (Box V (w.heap.size+1) (.slice none 0 0)):=by rw[hV];exact ⟨by simp[go_sem],by simp[go_sem]⟩
  have HX:=hide (hx.later (un HW))
  have HV:=hide hV
  clear hV hx hM h67 hP67 hL1 hL2
  go_enter Tryz.func269,Tryz.ntmps269
  go_upto_region 1 with fail
  rw[← un HV]
  clear HV
  have a0:=(un HA).c
  go_upto_region 3 with (go_at_call 119;go_must (refine (un HLN _ (un HX)).mono ?_;rintro e w1 ⟨rfl,hb⟩;have HX1:=hide ((un HX).later hb);have HA1:=hide ((un HA).later hb);have HR1:=hide ((un HR).later hb);have HW1:Hid (Below w.heap.size w w1):=(un HW).trans (hb.mono (un HW).size);clear hb a0))
  clear HX HA HR HW HLN hq hq0
  have a0:=(un HA1).c
  go_upto_region 4 with (go_at_call 301;go_must (refine (un HPW _ (un HX1)).mono ?_;rintro e w2 ⟨pa,pn,pc,rfl,hp,hb⟩;have HP2:=hide hp;have HR2:=hide ((un HR1).later hb);have HW2:Hid (Below w.heap.size w w2):=(un HW1).trans (hb.mono (un HW1).size);clear hb hp a0))
  obtain ⟨V3,hV3⟩:∃ V3,V3=w2.alloc (.cells #[.slice pa pn pc] 80):=⟨_,rfl⟩
  have hb3:Below w2.heap.size w2 V3:=by rw[hV3];exact (Below.refl _ _).alloc (Nat.le_refl _) _
  have HB3:Hid (Box V3 w2.heap.size (.slice pa pn pc)):=by rw[hV3];exact ⟨by simp[go_sem],by simp[go_sem]⟩
  have HP3:=hide ((un HP2).later hb3);have HR3:=hide ((un HR2).later hb3);have HW3:Hid (Below w.heap.size w V3):=(un HW2).trans (hb3.mono (un HW2).size)
  have HNE:Hid (¬ w.heap.size+1=w2.heap.size):=(by have:=(un HR2).lt;show ¬ _;omega)
  rw[← hV3]
  clear hV3 hb3 HP2 HR2 HW2 HX1 HA1 HR1 HW1
  generalize w2.heap.size=g6 at *
  have HS0:Hid (V3.drew.cell? ⟨g6,0,none⟩=some (.slice pa pn pc)):=(un HB3).c
  refine region_reads 4 (fun _=>True) (fun W'=>W'.cell? ⟨g6,0,none⟩=some (.slice pa pn pc)) 6 rfl (by kernel_rfl) ?_
  refine wpR_take7 (i:=0) (oi:=_) (v:=.agg #[.slice pa pn pc]) rfl (by kernel_rfl) (by kernel_rfl) (by kernel_rfl) (by kernel_rfl) (fun _ _ _ h=>h) (Or.inl ⟨by rfl,?_⟩) ⟨trivial,un HS0⟩ ?_
  · intro W' hW
    go_simp
  refine wpR_take7 (i:=1) (oi:=_) (v:=.agg #[.slice pa pn pc]) rfl (by kernel_rfl) (by kernel_rfl) (by kernel_rfl) (by kernel_rfl) (fun _ _ _ h=>h) (Or.inl ⟨by rfl,?_⟩) ⟨trivial,un HS0⟩ ?_
  · intro W' hW
    go_simp
  have HP4:Hid (IsBig V3.drew (.agg #[.slice pa pn pc]) M):=(un HP3).later ((Below.refl _ _).drew)
  have HR4:Hid (Box V3.drew (w.heap.size+1) (.slice none 0 0)):=(un HR3).later ((Below.refl _ _).drew)
  have HB4:Hid (Box V3.drew g6 (.slice pa pn pc)):=(un HB3).later ((Below.refl _ _).drew)
  have HW4:Hid (Below w.heap.size w V3.drew):=(un HW3).drew
  clear HP3 HR3 HB3 HW3 HS0
  generalize V3.drew=U at *
  refine wpR_op (i:=2) (o:=_) (by kernel_rfl) rfl rfl (fun K hK=>?_)
  go_simp
  refine (un HLM _ _ (un HP4)).mono ?_
  rintro e U2 ⟨rfl,hb⟩
  have HP5:=hide ((un HP4).later hb);have HR5:=hide ((un HR4).later hb);have HB5:=hide ((un HB4).later hb);have HW5:Hid (Below w.heap.size w U2):=(un HW4).trans (hb.mono (un HW4).size)
  clear hb HP4 HR4 HB4 HW4
  refine hK _ _ ⟨trivial,(un HB5).c⟩ ?_
  clear hK K
  have hl2I:(L2:Int)≤600:=by omega
  refine wpR_take7 (i:=3) (oi:=_) (v:=.bool true) rfl (by kernel_rfl) (by kernel_rfl) (by kernel_rfl) (by kernel_rfl) (fun _ _ _ h=>h) (Or.inl ⟨by rfl,?_⟩) ⟨trivial,(un HB5).c⟩ ?_
  · intro W' hW
    go_simp
  have r0:=(un HR5).c;have r1:=(un HR5).f
  refine wpR_late (i:=4) (o:=_) (by kernel_rfl) rfl rfl (by kernel_rfl) (fun K hK=>?_)
  go_simp
  have hne:¬ w.heap.size+1=g6:=un HNE
  have HB6:=hide ((un HB5).other (fun h=>hne h.symm) (.slice pa pn pc))
  refine hK _ _ (un HB6).c ?_
  clear hK K
  refine wpR_late (i:=5) (o:=_) (by kernel_rfl) rfl rfl (by kernel_rfl) (fun K hK=>?_)
  go_simp
  refine hK _ _ (un HB6).c ?_
  clear hK K
  refine wpR_done (by kernel_rfl) ?_
  go_wp2_with fail
  have hs:=(un HR5).set (.slice pa pn pc)
  have u0:=hs.c
  refine bodyPost_ret (v:=.tuple #[.agg #[.slice pa pn pc],.bool true]) (by simp[results,Tryz.results269,go_sem,u0]) rfl ⟨_,_,_,rfl,?_,?_⟩
  · exact (un HP5).box _ (un HR5).c (no_int _ _ _)
  · exact (un HW5).setCell (by simp) _
end Go.Proofs.YtamoadanapmmeaaGreatDoor

/- (Big).first: the first digits. -/
import Derived.Test.YtliadckofhblnaaGreatDoorLimb3
import Derived.Test.YtliadckofhblnaaGreatDoorCopy
import Derived.OwnWalk
import Derived.WalkMore
import Derived.LoopN
set_option maxHeartbeats 8000000
set_option maxRecDepth 100000
namespace Go.Proofs.YtliadckofhblnaaGreatDoor
open Go.RowKit
structure Six (W:World) (g:Nat) (x0 x1 x2 x3 x4 x5:Value):Prop where
  c0:W.cell? ⟨g,0,none⟩=some x0
  c1:W.cell? ⟨g,1,none⟩=some x1
  c2:W.cell? ⟨g,2,none⟩=some x2
  c3:W.cell? ⟨g,3,none⟩=some x3
  c4:W.cell? ⟨g,4,none⟩=some x4
  c5:W.cell? ⟨g,5,none⟩=some x5
  f:∀k,W.frozen? ⟨g,k,none⟩=false
theorem Six.lt {W:World} {g:Nat} {x0 x1 x2 x3 x4 x5:Value} (h:Six W g x0 x1 x2 x3 x4 x5):g<W.heap.size:=World.block_lt_of_cell? _ _ h.c0
theorem Six.later {W V:World} {g:Nat} {x0 x1 x2 x3 x4 x5:Value} (h:Six W g x0 x1 x2 x3 x4 x5) (hb:Below W.heap.size W V):Six V g x0 x1 x2 x3 x4 x5 :=
  ⟨(hb.cell (p:=⟨g,0,none⟩) h.lt).trans h.c0,(hb.cell (p:=⟨g,1,none⟩) h.lt).trans h.c1,(hb.cell (p:=⟨g,2,none⟩) h.lt).trans h.c2,(hb.cell (p:=⟨g,3,none⟩) h.lt).trans h.c3,
    (hb.cell (p:=⟨g,4,none⟩) h.lt).trans h.c4,(hb.cell (p:=⟨g,5,none⟩) h.lt).trans h.c5,fun k=>(hb.frozen (p:=⟨g,k,none⟩) h.lt).trans (h.f k)⟩
theorem Six.set15 {W:World} {g:Nat} {x0 x1 x2 x3 x4 x5:Value} (h:Six W g x0 x1 x2 x3 x4 x5) (u v:Value):Six ((W.setCell ⟨g,1,none⟩ u).setCell ⟨g,5,none⟩ v) g x0 u x2 x3 x4 v:=by
  have a5:(W.setCell ⟨g,1,none⟩ u).cell? ⟨g,5,none⟩=some x5:=by rw[World.cell?_setCell_other _ _ _ _ (by simp)];exact h.c5
  refine⟨?_,?_,?_,?_,?_,World.cell?_setCell_same _ _ _ a5,fun k=>by rw[World.frozen?_setCell,World.frozen?_setCell];exact h.f k⟩
  · rw[World.cell?_setCell_other _ _ _ _ (by simp),World.cell?_setCell_other _ _ _ _ (by simp)];exact h.c0
  · rw[World.cell?_setCell_other _ _ _ _ (by simp)];exact World.cell?_setCell_same _ _ _ h.c1
  · rw[World.cell?_setCell_other _ _ _ _ (by simp),World.cell?_setCell_other _ _ _ _ (by simp)];exact h.c2
  · rw[World.cell?_setCell_other _ _ _ _ (by simp),World.cell?_setCell_other _ _ _ _ (by simp)];exact h.c3
  · rw[World.cell?_setCell_other _ _ _ _ (by simp),World.cell?_setCell_other _ _ _ _ (by simp)];exact h.c4
theorem Six.set42 {W:World} {g:Nat} {x0 x1 x2 x3 x4 x5:Value} (h:Six W g x0 x1 x2 x3 x4 x5) (u v:Value):Six ((W.setCell ⟨g,4,none⟩ u).setCell ⟨g,2,none⟩ v) g x0 x1 v x3 u x5:=by
  have a2:(W.setCell ⟨g,4,none⟩ u).cell? ⟨g,2,none⟩=some x2:=by rw[World.cell?_setCell_other _ _ _ _ (by simp)];exact h.c2
  refine⟨?_,?_,World.cell?_setCell_same _ _ _ a2,?_,?_,?_,fun k=>by rw[World.frozen?_setCell,World.frozen?_setCell];exact h.f k⟩
  · rw[World.cell?_setCell_other _ _ _ _ (by simp),World.cell?_setCell_other _ _ _ _ (by simp)];exact h.c0
  · rw[World.cell?_setCell_other _ _ _ _ (by simp),World.cell?_setCell_other _ _ _ _ (by simp)];exact h.c1
  · rw[World.cell?_setCell_other _ _ _ _ (by simp),World.cell?_setCell_other _ _ _ _ (by simp)];exact h.c3
  · rw[World.cell?_setCell_other _ _ _ _ (by simp)];exact World.cell?_setCell_same _ _ _ h.c4
  · rw[World.cell?_setCell_other _ _ _ _ (by simp),World.cell?_setCell_other _ _ _ _ (by simp)];exact h.c5
structure TM (w W:World) (b c:Bool) (s1 s2 s3 s4:Value):Prop where
  six:Six W (w.heap.size+1) (.bool b) s1 s2 (.bool c) s3 s4
  r:FBox W w.heap.size (.bool false) (.slice none 0 0) (.slice none 0 0)
  below:Below w.heap.size w W
theorem TM.later {w W V:World} {b c:Bool} {s1 s2 s3 s4:Value} (s:TM w W b c s1 s2 s3 s4) (hb:Below W.heap.size W V):TM w V b c s1 s2 s3 s4 :=
  ⟨s.six.later hb,s.r.later hb,s.below.trans (hb.mono s.below.size)⟩
theorem FBox.otherAt {W:World} {g k o:Nat} {x y z:Value} (h:FBox W g x y z) (hk:g≠k) (u:Value):FBox (W.setCell ⟨k,o,none⟩ u) g x y z :=
  ⟨by rw[World.cell?_setCell_other _ _ _ _ (by intro e;exact hk (congrArg Addr.block e).symm)];exact h.c0,by rw[World.cell?_setCell_other _ _ _ _ (by intro e;exact hk (congrArg Addr.block e).symm)];exact h.c1,by rw[World.cell?_setCell_other _ _ _ _ (by intro e;exact hk (congrArg Addr.block e).symm)];exact h.c2,
    by rw[World.frozen?_setCell];exact h.f0,by rw[World.frozen?_setCell];exact h.f1,by rw[World.frozen?_setCell];exact h.f2⟩
theorem TM.set15 {w W:World} {b c:Bool} {s1 s2 s3 s4:Value} (s:TM w W b c s1 s2 s3 s4) (u v:Value):TM w ((W.setCell ⟨w.heap.size+1,1,none⟩ u).setCell ⟨w.heap.size+1,5,none⟩ v) b c u s2 s3 v :=
  ⟨s.six.set15 u v,(s.r.otherAt (by omega) u).otherAt (by omega) v,(s.below.setCell (p:=⟨w.heap.size+1,1,none⟩) (by simp) _).setCell (p:=⟨w.heap.size+1,5,none⟩) (by simp) _⟩
theorem TM.set42 {w W:World} {b c:Bool} {s1 s2 s3 s4:Value} (s:TM w W b c s1 s2 s3 s4) (u v:Value):TM w ((W.setCell ⟨w.heap.size+1,4,none⟩ u).setCell ⟨w.heap.size+1,2,none⟩ v) b c s1 v u s4 :=
  ⟨s.six.set42 u v,(s.r.otherAt (by omega) u).otherAt (by omega) v,(s.below.setCell (p:=⟨w.heap.size+1,4,none⟩) (by simp) _).setCell (p:=⟨w.heap.size+1,2,none⟩) (by simp) _⟩
theorem TM.first (w:World) (b c:Bool) (s1 s2 s3 s4:Value):TM w ((w.alloc (.cells #[.bool false,.slice none 0 0,.slice none 0 0] 82)).alloc (.cells #[.bool b,s1,s2,.bool c,s3,s4] 82)) b c s1 s2 s3 s4 :=
  ⟨⟨by simp[go_sem],by simp[go_sem],by simp[go_sem],by simp[go_sem],by simp[go_sem],by simp[go_sem],fun k=>by simp[go_sem]⟩,⟨by simp[go_sem],by simp[go_sem],by simp[go_sem],by simp[go_sem],by simp[go_sem],by simp[go_sem]⟩,
    ((Below.refl _ _).alloc (Nat.le_refl _) _).alloc (by simp) _⟩
theorem FBox.set0 {W:World} {g:Nat} {x y z:Value} (h:FBox W g x y z) (u:Value):FBox (W.setCell ⟨g,0,none⟩ u) g u y z :=
  ⟨World.cell?_setCell_same _ _ _ h.c0,by rw[World.cell?_setCell_other _ _ _ _ (by simp)];exact h.c1,by rw[World.cell?_setCell_other _ _ _ _ (by simp)];exact h.c2,
    by rw[World.frozen?_setCell];exact h.f0,by rw[World.frozen?_setCell];exact h.f1,by rw[World.frozen?_setCell];exact h.f2⟩
theorem FBox.set1 {W:World} {g:Nat} {x y z:Value} (h:FBox W g x y z) (u:Value):FBox (W.setCell ⟨g,1,none⟩ u) g x u z :=
  ⟨by rw[World.cell?_setCell_other _ _ _ _ (by simp)];exact h.c0,World.cell?_setCell_same _ _ _ h.c1,by rw[World.cell?_setCell_other _ _ _ _ (by simp)];exact h.c2,
    by rw[World.frozen?_setCell];exact h.f0,by rw[World.frozen?_setCell];exact h.f1,by rw[World.frozen?_setCell];exact h.f2⟩
theorem FBox.set2 {W:World} {g:Nat} {x y z:Value} (h:FBox W g x y z) (u:Value):FBox (W.setCell ⟨g,2,none⟩ u) g x y u :=
  ⟨by rw[World.cell?_setCell_other _ _ _ _ (by simp)];exact h.c0,by rw[World.cell?_setCell_other _ _ _ _ (by simp)];exact h.c1,World.cell?_setCell_same _ _ _ h.c2,
    by rw[World.frozen?_setCell];exact h.f0,by rw[World.frozen?_setCell];exact h.f1,by rw[World.frozen?_setCell];exact h.f2⟩
theorem FBox.new (W:World) (x y z:Value):FBox (W.alloc (.cells #[x,y,z] 82)) W.heap.size x y z :=
  ⟨by simp[go_sem],by simp[go_sem],by simp[go_sem],by simp[go_sem],by simp[go_sem],by simp[go_sem]⟩
theorem TM.other {w W:World} {b c:Bool} {s1 s2 s3 s4:Value} (s:TM w W b c s1 s2 s3 s4) (g o:Nat) (hg:w.heap.size+1<g) (u:Value):TM w (W.setCell ⟨g,o,none⟩ u) b c s1 s2 s3 s4:=by
  have k:∀i,(W.setCell ⟨g,o,none⟩ u).cell? ⟨w.heap.size+1,i,none⟩=W.cell? ⟨w.heap.size+1,i,none⟩:=fun i=>World.cell?_setCell_other _ _ _ _ (by intro e;have:=congrArg Addr.block e;simp at this;omega)
  exact⟨⟨(k 0).trans s.six.c0,(k 1).trans s.six.c1,(k 2).trans s.six.c2,(k 3).trans s.six.c3,(k 4).trans s.six.c4,(k 5).trans s.six.c5,fun i=>by rw[World.frozen?_setCell];exact s.six.f i⟩,s.r.otherAt (by omega) u,s.below.setCell (p:=⟨g,o,none⟩) (by show w.heap.size≤g;omega) _⟩
theorem no_bool (b:Bool):∀k n,(Value.bool b)≠.int k n:=fun _ _ e=>by cases e
structure QS (w W:World) (g:Nat) (b c:Bool) (s1 s2 s3 s4:Value) (bb:Bool) (p q:Value) (N D M E P Q:Nat):Prop where
  tm:TM w W b c s1 s2 s3 s4
  gt:w.heap.size+1<g
  fb:FBox W g (.bool bb) p q
  i1:zAf W (.agg #[s1]) N
  i2:zAf W (.agg #[s2]) D
  i3:zAf W (.agg #[s3]) M
  i4:zAf W (.agg #[s4]) E
  ip:zAf W (.agg #[p]) P
  iq:zAf W (.agg #[q]) Q
theorem QS.later {w W V:World} {g:Nat} {b c:Bool} {s1 s2 s3 s4:Value} {bb:Bool} {p q:Value} {N D M E P Q:Nat} (s:QS w W g b c s1 s2 s3 s4 bb p q N D M E P Q) (hb:Below W.heap.size W V):QS w V g b c s1 s2 s3 s4 bb p q N D M E P Q :=
  ⟨s.tm.later hb,s.gt,s.fb.later hb,s.i1.later hb,s.i2.later hb,s.i3.later hb,s.i4.later hb,s.ip.later hb,s.iq.later hb⟩
theorem QS.set0 {w W:World} {g:Nat} {b c:Bool} {s1 s2 s3 s4:Value} {bb:Bool} {p q:Value} {N D M E P Q:Nat} (s:QS w W g b c s1 s2 s3 s4 bb p q N D M E P Q) (u:Bool):QS w (W.setCell ⟨g,0,none⟩ (.bool u)) g b c s1 s2 s3 s4 u p q N D M E P Q :=
  ⟨s.tm.other g 0 s.gt _,s.gt,s.fb.set0 _,s.i1.box _ s.fb.c0 (no_bool _),s.i2.box _ s.fb.c0 (no_bool _),s.i3.box _ s.fb.c0 (no_bool _),s.i4.box _ s.fb.c0 (no_bool _),s.ip.box _ s.fb.c0 (no_bool _),s.iq.box _ s.fb.c0 (no_bool _)⟩
theorem QS.set1 {w W:World} {g:Nat} {b c:Bool} {s1 s2 s3 s4:Value} {bb:Bool} {a:Option Addr} {l k:Nat} {q:Value} {N D M E P Q:Nat} (s:QS w W g b c s1 s2 s3 s4 bb (.slice a l k) q N D M E P Q) {u:Value} {P':Nat} (hu:zAf W (.agg #[u]) P'):QS w (W.setCell ⟨g,1,none⟩ u) g b c s1 s2 s3 s4 bb u q N D M E P' Q :=
  ⟨s.tm.other g 1 s.gt _,s.gt,s.fb.set1 _,s.i1.box _ s.fb.c1 (zAp _ _ _),s.i2.box _ s.fb.c1 (zAp _ _ _),s.i3.box _ s.fb.c1 (zAp _ _ _),s.i4.box _ s.fb.c1 (zAp _ _ _),hu.box _ s.fb.c1 (zAp _ _ _),s.iq.box _ s.fb.c1 (zAp _ _ _)⟩
theorem QS.set2 {w W:World} {g:Nat} {b c:Bool} {s1 s2 s3 s4:Value} {bb:Bool} {a:Option Addr} {l k:Nat} {p:Value} {N D M E P Q:Nat} (s:QS w W g b c s1 s2 s3 s4 bb p (.slice a l k) N D M E P Q) {u:Value} {Q':Nat} (hu:zAf W (.agg #[u]) Q'):QS w (W.setCell ⟨g,2,none⟩ u) g b c s1 s2 s3 s4 bb p u N D M E P Q' :=
  ⟨s.tm.other g 2 s.gt _,s.gt,s.fb.set2 _,s.i1.box _ s.fb.c2 (zAp _ _ _),s.i2.box _ s.fb.c2 (zAp _ _ _),s.i3.box _ s.fb.c2 (zAp _ _ _),s.i4.box _ s.fb.c2 (zAp _ _ _),s.ip.box _ s.fb.c2 (zAp _ _ _),hu.box _ s.fb.c2 (zAp _ _ _)⟩
def PS (w W:World) (b c:Bool) (N D M E:Nat):Prop:=∃a1 l1 k1 a2 l2 k2 a3 l3 k3 a4 l4 k4,TM w W b c (.slice a1 l1 k1) (.slice a2 l2 k2) (.slice a3 l3 k3) (.slice a4 l4 k4)∧
  zAf W (.agg #[.slice a1 l1 k1]) N∧zAf W (.agg #[.slice a2 l2 k2]) D∧zAf W (.agg #[.slice a3 l3 k3]) M∧zAf W (.agg #[.slice a4 l4 k4]) E
def pN (n e:Nat) (i:Int):Nat:=if i=0 then n else n / Nat.gcd n e
def pM (m d:Nat) (i:Int):Nat:=if i=2 then m / Nat.gcd m d else m
def pD (m d:Nat) (i:Int):Nat:=if i=2 then d / Nat.gcd m d else d
def pE (n e:Nat) (i:Int):Nat:=if i=0 then e else e / Nat.gcd n e
theorem times_any (B:Nat) (b c:Bool) (a1 a2 a3 a4:Option Addr) (l1 d1 l2 d2 l3 d3 l4 d4:Nat) (n d m e k:Nat) (w:World)
    (c0:w.cell? ⟨B,0,none⟩=some (.bool b)) (c1:w.cell? ⟨B,1,none⟩=some (.slice a1 l1 d1)) (c2:w.cell? ⟨B,2,none⟩=some (.slice a2 l2 d2)) (c3:w.cell? ⟨B,3,none⟩=some (.bool c)) (c4:w.cell? ⟨B,4,none⟩=some (.slice a3 l3 d3)) (c5:w.cell? ⟨B,5,none⟩=some (.slice a4 l4 d4))
    (h1:zAf w (.agg #[.slice a1 l1 d1]) n) (h2:zAf w (.agg #[.slice a2 l2 d2]) d) (h3:zAf w (.agg #[.slice a3 l3 d3]) m) (h4:zAf w (.agg #[.slice a4 l4 d4]) e) (hk:k+k≤100000) (hn:n<1000000000 ^ k) (hd:d<1000000000 ^ k) (hm:m<1000000000 ^ k) (he:e<1000000000 ^ k) (hd0:0<d) (he0:0<e) (hDA:DivAns k) (hGA:GcdAns k) :
    Calls Tryz.prog 147 #[.slice (some ⟨B,0,none⟩) 2 2] w fun r w'=>∃v,r=.returned v∧zCd w' v ((!(b == c)) && !(n / Nat.gcd n e*(m / Nat.gcd m d) == 0)) (n / Nat.gcd n e*(m / Nat.gcd m d)) (d / Nat.gcd m d*(e / Nat.gcd n e))∧Bw w w':=by
  have hmk:∀W:World,(Instr.makeSlice 224 (I 2) (I 2)).run Tryz.prog W=.ok (.slice (some ⟨W.heap.size,0,none⟩) 2 2) (W.alloc (.cells #[.bool false,.slice none 0 0,.slice none 0 0,.bool false,.slice none 0 0,.slice none 0 0] 82)):=fun _=>by kernel_rfl
  have hB:B<w.heap.size:=World.block_lt_of_cell? _ _ c0;have hb0:Below w.heap.size w (w.alloc (.cells #[.bool false,.slice none 0 0,.slice none 0 0] 82)):=(Below.refl _ _).alloc (Nat.le_refl _) _;have hcp:=copy_two B b c a1 a2 a3 a4 l1 d1 l2 d2 l3 d3 l4 d4 (w.alloc (.cells #[.bool false,.slice none 0 0,.slice none 0 0] 82)) ((hb0.cell (p:=⟨B,0,none⟩) hB).trans c0) ((hb0.cell (p:=⟨B,1,none⟩) hB).trans c1) ((hb0.cell (p:=⟨B,2,none⟩) hB).trans c2) ((hb0.cell (p:=⟨B,3,none⟩) hB).trans c3) ((hb0.cell (p:=⟨B,4,none⟩) hB).trans c4) ((hb0.cell (p:=⟨B,5,none⟩) hB).trans c5);have he:(w.alloc (.cells #[.bool false,.slice none 0 0,.slice none 0 0] 82)).heap.size=w.heap.size+1:=by simp
  rw[he]at hcp;obtain⟨V,hV⟩:∃V,V=(w.alloc (.cells #[.bool false,.slice none 0 0,.slice none 0 0] 82)).alloc (.cells #[.bool b,.slice a1 l1 d1,.slice a2 l2 d2,.bool c,.slice a3 l3 d3,.slice a4 l4 d4] 82):=⟨_,rfl⟩;have HS:Hid (TM w V b c (.slice a1 l1 d1) (.slice a2 l2 d2) (.slice a3 l3 d3) (.slice a4 l4 d4)):=by rw[hV];exact TM.first _ _ _ _ _ _ _
  have HN:=zAb (h1.later (un HS).below);have HD:=zAb (h2.later (un HS).below);have HM:=zAb (h3.later (un HS).below);have HE:=zAb (h4.later (un HS).below);have HV:=zAb hV;clear c0 c1 c2 c3 c4 c5 h1 h2 h3 h4 hB hb0 he;go_enter Tryz.func147,Tryz.ntmps147
  go_wp2
  go_step3
  go_upto_region 3 with fail
  rw[←un HV];clear hcp hmk hV HV;have HL1:Hid (∀W x y,zAf W x n→zAf W y e→Calls Tryz.prog 152 #[x,y] W fun r w'=>∃a1 l1 c1 a2 l2 c2,r=.returned (.tuple #[.agg #[.slice a1 l1 c1],.agg #[.slice a2 l2 c2]])∧zAf w' (.agg #[.slice a1 l1 c1]) (n / Nat.gcd n e)∧zAf w' (.agg #[.slice a2 l2 c2]) (e / Nat.gcd n e)∧Bw W w'):=fun W x y i1 i2=>zEy x y n e k W i1 i2 hn he he0 hDA hGA
  have HL2:Hid (∀W x y,zAf W x m→zAf W y d→Calls Tryz.prog 152 #[x,y] W fun r w'=>∃a1 l1 c1 a2 l2 c2,r=.returned (.tuple #[.agg #[.slice a1 l1 c1],.agg #[.slice a2 l2 c2]])∧zAf w' (.agg #[.slice a1 l1 c1]) (m / Nat.gcd m d)∧zAf w' (.agg #[.slice a2 l2 c2]) (d / Nat.gcd m d)∧Bw W w'):=fun W x y i1 i2=>zEy x y m d k W i1 i2 hm hd hd0 hDA hGA
  have hone1:1<1000000000 ^ k:=by
    rcases Nat.eq_zero_or_pos k with h0|h0
    · subst h0;simp at he;omega
    · have:(1000000000:Nat) ^ 1≤1000000000 ^ k:=Nat.pow_le_pow_right (by decide) h0
      omega
  have HBD:Hid (k+k≤100000∧n / Nat.gcd n e<1000000000 ^ k∧m / Nat.gcd m d<1000000000 ^ k∧d / Nat.gcd m d<1000000000 ^ k∧e / Nat.gcd n e<1000000000 ^ k∧1<1000000000 ^ k):=⟨hk,Nat.lt_of_le_of_lt (Nat.div_le_self _ _) hn,Nat.lt_of_le_of_lt (Nat.div_le_self _ _) hm,Nat.lt_of_le_of_lt (Nat.div_le_self _ _) hd,Nat.lt_of_le_of_lt (Nat.div_le_self _ _) he,hone1⟩;have HP0:Hid (PS w V b c (pN n e 0) (pD m d 0) (pM m d 0) (pE n e 0)):=⟨_,_,_,_,_,_,_,_,_,_,_,_,un HS,un HN,un HD,un HM,un HE⟩;clear HS HN HD HM HE hone1 hk hn hd hm he hd0 he0 hDA hGA
  go_step3
  go_wp2
  go_loopw [17] (fun t wr=>∃(i:Int),t=I i∧0≤i∧i≤2∧Hid (PS w wr b c (pN n e i) (pD m d i) (pM m d i) (pE n e i))) (fun t _=>(2 - intOf t).toNat)
  case atStart=>exact⟨0,rfl,by omega,by omega,HP0⟩
  case round=>
    clear HP0;obtain⟨i,rfl,hi0,hi2,HP⟩:=hrel;rcases(by omega:i=0∨i=1∨i=2)with rfl|rfl|rfl
    · have HP':Hid (PS w wr b c n d m e):=un HP
      clear HP hi0 hi2;obtain⟨a1,l1,k1,a2,l2,k2,a3,l3,k3,a4,l4,k4,hT,g1,g2,g3,g4⟩:=un HP';have HT:=zAb hT;have HG1:=zAb g1;have HG2:=zAb g2;have HG3:=zAb g3;have HG4:=zAb g4;clear hT g1 g2 g3 g4 HP';have q1:=(un HT).six.c1
      by_cases hone:n=1
      · have HN1:Hid (∀W,Below wr.heap.size wr W→PS w W b c (pN n e 1) (pD m d 1) (pM m d 1) (pE n e 1)):=fun W hb=>
          ⟨_,_,_,_,_,_,_,_,_,_,_,_,(un HT).later hb,by show zAf _ _ (n / Nat.gcd n e);rw[hone];simp;have:=(un HG1).later hb;rwa [hone]at this,(un HG2).later hb,(un HG3).later hb,by show zAf _ _ (e / Nat.gcd n e);rw[hone];simp;exact(un HG4).later hb⟩
        have H131:=zAb (zCu _ n wr (un HG1));rw[show(n == 1)=true by rw[hone];rfl]at H131;clear hone
        go_upto_region 6 with fail
        go_wp2
        refine wp_loop_rounds 1 ?_;rw[rounds_succ]
        go_wp2_with (go_at_call 188;go_must(refine(un H131).mono ?_;rintro r w1 ⟨rfl,hb1⟩;have HN2:=zAb (un HN1 w1 hb1);clear hb1))
        exact⟨⟨1,rfl,by omega,by omega,HN2⟩,by decide⟩
      · have H131:Hid (∀W,Below wr.heap.size wr W→Calls Tryz.prog 188 #[.agg #[.slice a1 l1 k1]] W fun r w'=>r=.returned (.bool false)∧Bw W w'):=fun W hb=>by
          have:=zCu _ n W ((un HG1).later hb)
          rwa [show(n == 1)=false by rw[beq_eq_false_iff_ne];exact hone]at this
        clear hone
        go_upto_region 6 with fail
        go_wp2
        refine wp_loop_rounds 3 ?_;rw[rounds_succ]
        go_wp2_with (go_at_call 188;go_must(refine(un H131 _ (Below.refl _ _)).mono ?_;rintro r w1 ⟨rfl,hb1⟩;have HB1:=zAb hb1;have HT1:=zAb ((un HT).later hb1);clear hb1 q1;have q1:=(un HT1).six.c1))
        rw[rounds_succ]
        go_upto_region 11 with (go_at_call 188;go_must(refine(un H131 _ (un HB1)).mono ?_;rintro r w2 ⟨rfl,hb2⟩;have HB2:=zAb ((un HB1).trans (hb2.mono (un HB1).size));have HT2:=zAb ((un HT).later (un HB2));clear hb2 q1;have q1:=(un HT2).six.c1;have q5:=(un HT2).six.c5))
        have HC:Hid (∀U,Below w2.heap.size w2 U→(U.cell? ⟨w.heap.size+1,1,none⟩=some (.slice a1 l1 k1)∧U.cell? ⟨w.heap.size+1,5,none⟩=some (.slice a4 l4 k4))∧U.frozen? ⟨w.heap.size+1,1,none⟩=false∧U.frozen? ⟨w.heap.size+1,5,none⟩=false):=fun U hb=>by
          have s:=(un HT2).later hb;exact⟨⟨s.six.c1,s.six.c5⟩,s.six.f 1,s.six.f 5⟩
        have HG1':=zAb ((un HG1).later (un HB2));have HG4':=zAb ((un HG4).later (un HB2))
        go_region_with (go_at_call 152;go_must(refine(un HL1 _ _ _ ((un HG1').later ((Below.refl _ _).drew)) ((un HG4').later ((Below.refl _ _).drew))).mono ?_;rintro r w3 ⟨ai,li,ci,aj,lj,cj,rfl,hi3,hj3,hb3⟩;have HI3:=zAb hi3;have HJ3:=zAb hj3;have HB3:=zAb (((Below.refl w2.heap.size w2).drew).trans hb3);clear hi3 hj3 hb3 q1 q5;obtain⟨⟨q1,q5⟩,f1,f5⟩:=un HC w3 (un HB3)))
        all_goals
          have HT3:=zAb ((un HT2).later (un HB3));have hc5:(w3.setCell ⟨w.heap.size+1,1,none⟩ (.slice ai li ci)).cell? ⟨w.heap.size+1,5,none⟩=some (.slice a4 l4 k4):=by rw[World.cell?_setCell_other _ _ _ _ (by simp)];exact q5
          obtain⟨V3,hV3⟩:∃V3,V3=(w3.setCell ⟨w.heap.size+1,1,none⟩ (.slice ai li ci)).setCell ⟨w.heap.size+1,5,none⟩ (.slice aj lj cj):=⟨_,rfl⟩
          have HN2:Hid (PS w V3 b c (pN n e 1) (pD m d 1) (pM m d 1) (pE n e 1)):=by
            rw[hV3];exact⟨_,_,_,_,_,_,_,_,_,_,_,_,(un HT3).set15 _ _,((un HI3).box _ q1 (zAp _ _ _)).box _ hc5 (zAp _ _ _),((((un HG2).later (un HB2)).later (un HB3)).box _ q1 (zAp _ _ _)).box _ hc5 (zAp _ _ _),((((un HG3).later (un HB2)).later (un HB3)).box _ q1 (zAp _ _ _)).box _ hc5 (zAp _ _ _),((un HJ3).box _ q1 (zAp _ _ _)).box _ hc5 (zAp _ _ _)⟩
          rw[←hV3];clear hV3 hc5 q1 q5 f1 f5 HC HT HT1 HT2 HT3 HG1 HG2 HG3 HG4 HG1' HG4' HI3 HJ3 HB1 HB2 HB3 H131
          go_wp2
          rw[rounds_succ]
          go_wp2
          exact⟨⟨1,rfl,by omega,by omega,HN2⟩,by decide⟩
    · have HP':Hid (PS w wr b c (pN n e 1) d m (pE n e 1)):=un HP
      clear HP hi0 hi2;obtain⟨a1,l1,k1,a2,l2,k2,a3,l3,k3,a4,l4,k4,hT,g1,g2,g3,g4⟩:=un HP';have HT:=zAb hT;have HG1:=zAb g1;have HG2:=zAb g2;have HG3:=zAb g3;have HG4:=zAb g4;clear hT g1 g2 g3 g4 HP';have q4:=(un HT).six.c4
      by_cases hone:m=1
      · have HN1:Hid (∀W,Below wr.heap.size wr W→PS w W b c (pN n e 2) (pD m d 2) (pM m d 2) (pE n e 2)):=fun W hb=>
          ⟨_,_,_,_,_,_,_,_,_,_,_,_,(un HT).later hb,(un HG1).later hb,by show zAf _ _ (d / Nat.gcd m d);rw[hone];simp;exact(un HG2).later hb,by show zAf _ _ (m / Nat.gcd m d);rw[hone];simp;have:=(un HG3).later hb;rwa [hone]at this,(un HG4).later hb⟩
        have H131:=zAb (zCu _ m wr (un HG3));rw[show(m == 1)=true by rw[hone];rfl]at H131;clear hone
        go_upto_region 6 with fail
        go_wp2
        refine wp_loop_rounds 1 ?_;rw[rounds_succ]
        go_wp2_with (go_at_call 188;go_must(refine(un H131).mono ?_;rintro r w1 ⟨rfl,hb1⟩;have HN2:=zAb (un HN1 w1 hb1);clear hb1))
        exact⟨⟨2,rfl,by omega,by omega,HN2⟩,by decide⟩
      · have H131:=zAb (zCu _ m wr (un HG3))
        rw[show(m == 1)=false by rw[beq_eq_false_iff_ne];exact hone]at H131;clear hone
        go_upto_region 6 with fail
        go_wp2
        refine wp_loop_rounds 3 ?_;rw[rounds_succ]
        go_upto_region 11 with (go_at_call 188;go_must(refine(un H131).mono ?_;rintro r w2 ⟨rfl,hb2⟩;have HB2:=zAb hb2;have HT2:=zAb ((un HT).later hb2);clear hb2 q4;have q4:=(un HT2).six.c4;have q2:=(un HT2).six.c2))
        have HC:Hid (∀U,Below w2.heap.size w2 U→(U.cell? ⟨w.heap.size+1,4,none⟩=some (.slice a3 l3 k3)∧U.cell? ⟨w.heap.size+1,2,none⟩=some (.slice a2 l2 k2))∧U.frozen? ⟨w.heap.size+1,4,none⟩=false∧U.frozen? ⟨w.heap.size+1,2,none⟩=false):=fun U hb=>by
          have s:=(un HT2).later hb;exact⟨⟨s.six.c4,s.six.c2⟩,s.six.f 4,s.six.f 2⟩
        have HG3':=zAb ((un HG3).later (un HB2));have HG2':=zAb ((un HG2).later (un HB2))
        go_region_with (go_at_call 152;go_must(refine(un HL2 _ _ _ ((un HG3').later ((Below.refl _ _).drew)) ((un HG2').later ((Below.refl _ _).drew))).mono ?_;rintro r w3 ⟨ai,li,ci,aj,lj,cj,rfl,hi3,hj3,hb3⟩;have HI3:=zAb hi3;have HJ3:=zAb hj3;have HB3:=zAb (((Below.refl w2.heap.size w2).drew).trans hb3);clear hi3 hj3 hb3 q4 q2;obtain⟨⟨q4,q2⟩,f1,f5⟩:=un HC w3 (un HB3)))
        all_goals
          have HT3:=zAb ((un HT2).later (un HB3));have hc5:(w3.setCell ⟨w.heap.size+1,4,none⟩ (.slice ai li ci)).cell? ⟨w.heap.size+1,2,none⟩=some (.slice a2 l2 k2):=by rw[World.cell?_setCell_other _ _ _ _ (by simp)];exact q2
          obtain⟨V3,hV3⟩:∃V3,V3=(w3.setCell ⟨w.heap.size+1,4,none⟩ (.slice ai li ci)).setCell ⟨w.heap.size+1,2,none⟩ (.slice aj lj cj):=⟨_,rfl⟩;have HT4:Hid (TM w V3 b c (.slice a1 l1 k1) (.slice aj lj cj) (.slice ai li ci) (.slice a4 l4 k4)):=by rw[hV3];exact(un HT3).set42 _ _
          have HM4:Hid (zAf V3 (.agg #[.slice ai li ci]) (m / Nat.gcd m d)):=by rw[hV3];exact((un HI3).box _ q4 (zAp _ _ _)).box _ hc5 (zAp _ _ _)
          have HN2:Hid (∀W,Below V3.heap.size V3 W→PS w W b c (pN n e 2) (pD m d 2) (pM m d 2) (pE n e 2)):=fun W hb=>by
            rw[hV3]at hb;exact⟨_,_,_,_,_,_,_,_,_,_,_,_,((un HT3).set42 _ _).later hb,(((((un HG1).later (un HB2)).later (un HB3)).box _ q4 (zAp _ _ _)).box _ hc5 (zAp _ _ _)).later hb,(((un HJ3).box _ q4 (zAp _ _ _)).box _ hc5 (zAp _ _ _)).later hb,(((un HI3).box _ q4 (zAp _ _ _)).box _ hc5 (zAp _ _ _)).later hb,(((((un HG4).later (un HB2)).later (un HB3)).box _ q4 (zAp _ _ _)).box _ hc5 (zAp _ _ _)).later hb⟩
          rw[←hV3];clear hV3 hc5 q4 q2 f1 f5 HC HT HT2 HT3 HG1 HG2 HG3 HG4 HG3' HG2' HI3 HJ3 HB2 HB3 H131;have q4:=(un HT4).six.c4
          go_wp2
          rw[rounds_succ]
          by_cases hone:m / Nat.gcd m d=1
          · have H131:=zAb (zCu _ _ V3 (un HM4))
            rw[show(m / Nat.gcd m d == 1)=true by rw[hone];rfl]at H131;clear hone
            go_wp2_with (go_at_call 188;go_must(refine(un H131).mono ?_;rintro r w5 ⟨rfl,hb5⟩;have HN3:=zAb (un HN2 w5 hb5);clear hb5))
            exact⟨⟨2,rfl,by omega,by omega,HN3⟩,by decide⟩
          · have H131:=zAb (zCu _ _ V3 (un HM4))
            rw[show(m / Nat.gcd m d == 1)=false by rw[beq_eq_false_iff_ne];exact hone]at H131;clear hone
            go_wp2_with (go_at_call 188;go_must(refine(un H131).mono ?_;rintro r w5 ⟨rfl,hb5⟩;have HN3:=zAb (un HN2 w5 hb5);clear hb5))
            rw[rounds_succ]
            go_wp2
            exact⟨⟨2,rfl,by omega,by omega,HN3⟩,by decide⟩
    · have HP':Hid (PS w wr b c (n / Nat.gcd n e) (d / Nat.gcd m d) (m / Nat.gcd m d) (e / Nat.gcd n e)):=un HP
      clear HP hi0 hi2 HL1 HL2;obtain⟨a1,l1,k1,a2,l2,k2,a3,l3,k3,a4,l4,k4,hT,g1,g2,g3,g4⟩:=un HP';have HT:=zAb hT;have HG1:=zAb g1;have HG2:=zAb g2;have HG3:=zAb g3;have HG4:=zAb g4;clear hT g1 g2 g3 g4 HP';obtain⟨N,hN⟩:∃N,N=n / Nat.gcd n e:=⟨_,rfl⟩;obtain⟨D,hD⟩:∃D,D=d / Nat.gcd m d:=⟨_,rfl⟩;obtain⟨M,hM⟩:∃M,M=m / Nat.gcd m d:=⟨_,rfl⟩;obtain⟨E,hE⟩:∃E,E=e / Nat.gcd n e:=⟨_,rfl⟩;have HEQ:=zAb (And.intro hN (And.intro hD (And.intro hM hE)));rw[←hN]at HG1;rw[←hD]at HG2;rw[←hM]at HG3;rw[←hE]at HG4;rw[←hN,←hD,←hM,←hE]at HBD;clear hN hD hM hE;have HW1:=zAb (fun W=>whole_any 1 W (by omega))
      go_upto_region 15 with (go_at_call 154;go_must(refine(un HW1 _).mono ?_;rintro r w1 ⟨v1,rfl,hv1,hb1⟩;obtain⟨p1,p2,p3,p4,p5,p6,rfl,hu1,hu2⟩:=hv1.form;have HT1:=zAb ((un HT).later hb1);have HU1:=zAb hu1;have HU2:=zAb hu2;have HB1:=zAb hb1;clear hv1 hb1 hu1 hu2))
      obtain⟨V1,hV1⟩:∃V1,V1=w1.alloc (.cells #[.bool false,.slice p1 p2 p3,.slice p4 p5 p6] 82):=⟨_,rfl⟩
      have HQ:Hid (QS w V1 w1.heap.size b c (.slice a1 l1 k1) (.slice a2 l2 k2) (.slice a3 l3 k3) (.slice a4 l4 k4) false (.slice p1 p2 p3) (.slice p4 p5 p6) N D M E 1 1):=by
        have hb:Below w1.heap.size w1 V1:=by rw[hV1];exact(Below.refl _ _).alloc (Nat.le_refl _) _
        have hb2:=(un HB1).trans (hb.mono (un HB1).size);exact⟨(un HT1).later hb,(un HT1).six.lt,by rw[hV1];exact FBox.new _ _ _ _,(un HG1).later hb2,(un HG2).later hb2,(un HG3).later hb2,(un HG4).later hb2,(un HU1).later hb,(un HU2).later hb⟩
      rw[←hV1];clear hV1 HT HT1 HG1 HG2 HG3 HG4 HU1 HU2 HB1 HW1;generalize w1.heap.size=g6 at *
      go_wp2
      refine wp_loop_rounds 3 ?_;rw[rounds_succ];have u0:=(un HQ).tm.six.c0;have u1:=(un HQ).tm.six.c1;have u2:=(un HQ).tm.six.c2
      go_upto_region 18 with fail
      obtain⟨V2,hV2⟩:∃V2,V2=V1.alloc (.cells #[.bool b,.slice a1 l1 k1,.slice a2 l2 k2] 82):=⟨_,rfl⟩;have HX:Hid (FBox V2 V1.heap.size (.bool b) (.slice a1 l1 k1) (.slice a2 l2 k2)∧g6<V1.heap.size):=⟨by rw[hV2];exact FBox.new _ _ _ _,(un HQ).fb.lt⟩;have HQ2:=zAb ((un HQ).later (show Below V1.heap.size V1 V2 by rw[hV2];exact(Below.refl _ _).alloc (Nat.le_refl _) _));rw[←hV2];clear hV2 HQ u0 u1 u2;generalize V1.heap.size=g8 at *
      have u0:=(un HQ2).fb.c0;have u1:=(un HQ2).fb.f0;have u2:=(un HX).1.c0
      go_upto_region 19 with fail
      obtain⟨V3,hV3⟩:∃V3,V3=V2.setCell ⟨g6,0,none⟩ (.bool b):=⟨_,rfl⟩;have hne:g8≠g6:=by have:=(un HX).2;omega
      have HX3:Hid (FBox V3 g8 (.bool b) (.slice a1 l1 k1) (.slice a2 l2 k2)):=by rw[hV3];exact(un HX).1.otherAt hne _
      have HQ3:Hid (QS w V3 g6 b c (.slice a1 l1 k1) (.slice a2 l2 k2) (.slice a3 l3 k3) (.slice a4 l4 k4) b (.slice p1 p2 p3) (.slice p4 p5 p6) N D M E 1 1):=by rw[hV3];exact(un HQ2).set0 b
      rw[←hV3];clear hV3 HQ2 HX u0 u1 u2;have HMUL:=zAb (mul_any _ _ 1 N k V3 (un HQ3).ip (un HQ3).i1 (by have:=(un HBD).1;omega) (un HBD).2.2.2.2.2 (un HBD).2.1);have u0:=(un HQ3).fb.c1;have u2:=(un HX3).c1
      go_upto_region 20 with (go_at_call 151;go_must(refine(un HMUL).mono ?_;rintro r w4 ⟨v',rfl,hv',hb'⟩;obtain⟨o1,o2,o3,rfl⟩:=hv'.shape;have HQ4:=zAb ((un HQ3).later hb');have HX4:=zAb ((un HX3).later hb');have HO:=zAb hv';clear hv' hb' u0 u2;have u0:=(un HQ4).fb.c1;have u1:=(un HQ4).fb.f1))
      obtain⟨V4,hV4⟩:∃V4,V4=w4.setCell ⟨g6,1,none⟩ (.slice o1 o2 o3):=⟨_,rfl⟩;have HX5:Hid (FBox V4 g8 (.bool b) (.slice a1 l1 k1) (.slice a2 l2 k2)):=by rw[hV4];exact(un HX4).otherAt hne _
      have HQ5:Hid (QS w V4 g6 b c (.slice a1 l1 k1) (.slice a2 l2 k2) (.slice a3 l3 k3) (.slice a4 l4 k4) b (.slice o1 o2 o3) (.slice p4 p5 p6) N D M E (1*N) 1):=by rw[hV4];exact(un HQ4).set1 (un HO)
      rw[←hV4];clear hV4 HQ3 HX3 HQ4 HX4 HO HMUL u0 u1;have HMUL:=zAb (mul_any _ _ 1 D k V4 (un HQ5).iq (un HQ5).i2 (by have:=(un HBD).1;omega) (un HBD).2.2.2.2.2 (un HBD).2.2.2.1);have u0:=(un HQ5).fb.c2;have u2:=(un HX5).c2
      go_wp2_with (go_at_call 151;go_must(refine(un HMUL).mono ?_;rintro r w5 ⟨v',rfl,hv',hb'⟩;obtain⟨o4,o5,o6,rfl⟩:=hv'.shape;have HQ6:=zAb ((un HQ5).later hb');have HO:=zAb hv';clear hv' hb' u0 u2;have u0:=(un HQ6).fb.c2;have u1:=(un HQ6).fb.f2))
      obtain⟨V5,hV5⟩:∃V5,V5=w5.setCell ⟨g6,2,none⟩ (.slice o4 o5 o6):=⟨_,rfl⟩;have HQ7:Hid (QS w V5 g6 b c (.slice a1 l1 k1) (.slice a2 l2 k2) (.slice a3 l3 k3) (.slice a4 l4 k4) b (.slice o1 o2 o3) (.slice o4 o5 o6) N D M E (1*N) (1*D)):=by rw[hV5];exact(un HQ6).set2 (un HO)
      rw[←hV5];clear hV5 HQ5 HX5 HQ6 HO HMUL u0 u1 hne;rw[rounds_succ];have u0:=(un HQ7).tm.six.c3;have u1:=(un HQ7).tm.six.c4;have u2:=(un HQ7).tm.six.c5
      go_upto_region 18 with fail
      obtain⟨V6,hV6⟩:∃V6,V6=V5.alloc (.cells #[.bool c,.slice a3 l3 k3,.slice a4 l4 k4] 82):=⟨_,rfl⟩;have HX:Hid (FBox V6 V5.heap.size (.bool c) (.slice a3 l3 k3) (.slice a4 l4 k4)∧g6<V5.heap.size):=⟨by rw[hV6];exact FBox.new _ _ _ _,(un HQ7).fb.lt⟩;have HQ8:=zAb ((un HQ7).later (show Below V5.heap.size V5 V6 by rw[hV6];exact(Below.refl _ _).alloc (Nat.le_refl _) _));rw[←hV6];clear hV6 HQ7 u0 u1 u2;generalize V5.heap.size=g9 at *
      have u0:=(un HQ8).fb.c0;have u1:=(un HQ8).fb.f0;have u2:=(un HX).1.c0
      go_upto_region 19 with fail
      obtain⟨V7,hV7⟩:∃V7,V7=V6.setCell ⟨g6,0,none⟩ (.bool (!(b == c))):=⟨_,rfl⟩;have hne:g9≠g6:=by have:=(un HX).2;omega
      have HX3:Hid (FBox V7 g9 (.bool c) (.slice a3 l3 k3) (.slice a4 l4 k4)):=by rw[hV7];exact(un HX).1.otherAt hne _
      have HQ9:Hid (QS w V7 g6 b c (.slice a1 l1 k1) (.slice a2 l2 k2) (.slice a3 l3 k3) (.slice a4 l4 k4) (!(b == c)) (.slice o1 o2 o3) (.slice o4 o5 o6) N D M E (1*N) (1*D)):=by rw[hV7];exact(un HQ8).set0 _
      rw[←hV7];clear hV7 HQ8 HX u0 u1 u2;have HMUL:=zAb (mul_any _ _ (1*N) M k V7 (un HQ9).ip (un HQ9).i3 (by have:=(un HBD).1;omega) (by rw[Nat.one_mul];exact(un HBD).2.1) (un HBD).2.2.1);have u0:=(un HQ9).fb.c1;have u2:=(un HX3).c1
      go_upto_region 20 with (go_at_call 151;go_must(refine(un HMUL).mono ?_;rintro r w8 ⟨v',rfl,hv',hb'⟩;obtain⟨i1,i2,i3,rfl⟩:=hv'.shape;have HQ4:=zAb ((un HQ9).later hb');have HX4:=zAb ((un HX3).later hb');have HO:=zAb hv';clear hv' hb' u0 u2;have u0:=(un HQ4).fb.c1;have u1:=(un HQ4).fb.f1))
      obtain⟨V8,hV8⟩:∃V8,V8=w8.setCell ⟨g6,1,none⟩ (.slice i1 i2 i3):=⟨_,rfl⟩;have HX5:Hid (FBox V8 g9 (.bool c) (.slice a3 l3 k3) (.slice a4 l4 k4)):=by rw[hV8];exact(un HX4).otherAt hne _
      have HQ5:Hid (QS w V8 g6 b c (.slice a1 l1 k1) (.slice a2 l2 k2) (.slice a3 l3 k3) (.slice a4 l4 k4) (!(b == c)) (.slice i1 i2 i3) (.slice o4 o5 o6) N D M E (1*N*M) (1*D)):=by rw[hV8];exact(un HQ4).set1 (un HO)
      rw[←hV8];clear hV8 HQ9 HX3 HQ4 HX4 HO HMUL u0 u1;have HMUL:=zAb (mul_any _ _ (1*D) E k V8 (un HQ5).iq (un HQ5).i4 (by have:=(un HBD).1;omega) (by rw[Nat.one_mul];exact(un HBD).2.2.2.1) (un HBD).2.2.2.2.1);have u0:=(un HQ5).fb.c2;have u2:=(un HX5).c2
      go_wp2_with (go_at_call 151;go_must(refine(un HMUL).mono ?_;rintro r w9 ⟨v',rfl,hv',hb'⟩;obtain⟨i4,i5,i6,rfl⟩:=hv'.shape;have HQ6:=zAb ((un HQ5).later hb');have HO:=zAb hv';clear hv' hb' u0 u2;have u0:=(un HQ6).fb.c2;have u1:=(un HQ6).fb.f2))
      obtain⟨V9,hV9⟩:∃V9,V9=w9.setCell ⟨g6,2,none⟩ (.slice i4 i5 i6):=⟨_,rfl⟩;have HQ7:Hid (QS w V9 g6 b c (.slice a1 l1 k1) (.slice a2 l2 k2) (.slice a3 l3 k3) (.slice a4 l4 k4) (!(b == c)) (.slice i1 i2 i3) (.slice i4 i5 i6) N D M E (1*N*M) (1*D*E)):=by rw[hV9];exact(un HQ6).set2 (un HO)
      rw[←hV9];clear hV9 HQ5 HX5 HQ6 HO HMUL u0 u1 hne;rw[rounds_succ];rw[Nat.one_mul,Nat.one_mul]at HQ7;obtain⟨PN,hPN⟩:∃PN,PN=N*M:=⟨_,rfl⟩;obtain⟨PD,hPD⟩:∃PD,PD=D*E:=⟨_,rfl⟩;obtain⟨bb,hbb⟩:∃bb,bb=(!(b == c)):=⟨_,rfl⟩;have HEQ2:=zAb (And.intro hPN (And.intro hPD hbb));rw[←hPN,←hPD,←hbb]at HQ7;rw[←hbb];clear hPN hPD hbb;have u0:=(un HQ7).fb.c0;have u1:=(un HQ7).fb.c1;have u2:=(un HQ7).fb.f0
      cases bb with
      | false=>
        go_upto_region 23 with fail
        obtain⟨V10,hV10⟩:∃V10,V10=V9.setCell ⟨g6,0,none⟩ (.bool false):=⟨_,rfl⟩;have HQ8:Hid (QS w V10 g6 b c (.slice a1 l1 k1) (.slice a2 l2 k2) (.slice a3 l3 k3) (.slice a4 l4 k4) false (.slice i1 i2 i3) (.slice i4 i5 i6) N D M E PN PD):=by rw[hV10];exact(un HQ7).set0 _
        rw[←hV10];clear hV10 HQ7 u0 u1 u2;have u0:=(un HQ8).fb.c0;have u1:=(un HQ8).fb.c1;have u2:=(un HQ8).fb.c2;have r0:=(un HQ8).tm.r.c0;have r1:=(un HQ8).tm.r.c1;have r2:=(un HQ8).tm.r.c2;have rf0:=(un HQ8).tm.r.f0;have rf1:=(un HQ8).tm.r.f1;have rf2:=(un HQ8).tm.r.f2
        go_wp2
        try rw[Exit.noGoto_ret]
        have hS:=(un HQ8).tm.r.store (.bool false) (.slice i1 i2 i3) (.slice i4 i5 i6);have hb:Below w.heap.size w (zAs V10 w.heap.size (.bool false) (.slice i1 i2 i3) (.slice i4 i5 i6)):=zAq (un HQ8).tm.below (Nat.le_refl _) _ _ _;have t0:=hS.c0;have t1:=hS.c1;have t2:=hS.c2;exact bodyPost_ret (v:=.agg #[.bool false,.slice i1 i2 i3,.slice i4 i5 i6]) (w:=zAs V10 w.heap.size (.bool false) (.slice i1 i2 i3) (.slice i4 i5 i6)) (by simp[results,Tryz.results147,go_sem,t0,t1,t2]) rfl ⟨_,rfl,(by rw[←(un HEQ).1,←(un HEQ).2.1,←(un HEQ).2.2.1,←(un HEQ).2.2.2,←(un HEQ2).1,←(un HEQ2).2.1,←(un HEQ2).2.2];exact⟨_,_,rfl,(un HQ8).tm.r.big _ _ _ (un HQ8).ip,(un HQ8).tm.r.big _ _ _ (un HQ8).iq⟩),hb⟩
      | true=>
        have HZ:=zAb (zCk _ PN V9 (un HQ7).ip)
        go_upto_region 23 with (go_at_call 153;go_must(refine(un HZ).mono ?_;rintro r wz ⟨rfl,hbz⟩;have HQ8:=zAb ((un HQ7).later hbz);clear hbz u0 u1 u2;have u0:=(un HQ8).fb.c0;have u2:=(un HQ8).fb.f0))
        obtain⟨V10,hV10⟩:∃V10,V10=wz.setCell ⟨g6,0,none⟩ (.bool (!(PN == 0))):=⟨_,rfl⟩;have HQ9:Hid (QS w V10 g6 b c (.slice a1 l1 k1) (.slice a2 l2 k2) (.slice a3 l3 k3) (.slice a4 l4 k4) (!(PN == 0)) (.slice i1 i2 i3) (.slice i4 i5 i6) N D M E PN PD):=by rw[hV10];exact(un HQ8).set0 _
        rw[←hV10];clear hV10 HQ7 HQ8 HZ u0 u2;have u0:=(un HQ9).fb.c0;have u1:=(un HQ9).fb.c1;have u2:=(un HQ9).fb.c2;have r0:=(un HQ9).tm.r.c0;have r1:=(un HQ9).tm.r.c1;have r2:=(un HQ9).tm.r.c2;have rf0:=(un HQ9).tm.r.f0;have rf1:=(un HQ9).tm.r.f1;have rf2:=(un HQ9).tm.r.f2
        go_wp2
        try rw[Exit.noGoto_ret]
        have hS:=(un HQ9).tm.r.store (.bool (!(PN == 0))) (.slice i1 i2 i3) (.slice i4 i5 i6);have hb:Below w.heap.size w (zAs V10 w.heap.size (.bool (!(PN == 0))) (.slice i1 i2 i3) (.slice i4 i5 i6)):=zAq (un HQ9).tm.below (Nat.le_refl _) _ _ _;have t0:=hS.c0;have t1:=hS.c1;have t2:=hS.c2;exact bodyPost_ret (v:=.agg #[.bool (!(PN == 0)),.slice i1 i2 i3,.slice i4 i5 i6]) (w:=zAs V10 w.heap.size (.bool (!(PN == 0))) (.slice i1 i2 i3) (.slice i4 i5 i6)) (by simp[results,Tryz.results147,go_sem,t0,t1,t2]) rfl ⟨_,rfl,(by rw[←(un HEQ).1,←(un HEQ).2.1,←(un HEQ).2.2.1,←(un HEQ).2.2.2,←(un HEQ2).1,←(un HEQ2).2.1,←(un HEQ2).2.2];exact⟨_,_,rfl,(un HQ9).tm.r.big _ _ _ (un HQ9).ip,(un HQ9).tm.r.big _ _ _ (un HQ9).iq⟩),hb⟩
theorem first_any (ap:Option Addr) (l:List Nat) (cap t up x2 x1 x0 h e f:Nat) (w:World) (hr:Row w (.slice ap l.length cap) l) (e2:l.getD (t+2) 0=x2) (e1:l.getD (t+1) 0=x1) (e0:l.getD t 0=x0) (ht:t≤1000000)
  (b2:x2<1000000000) (b1:x1<1000000000) (b0:x0<1000000000) (hh:h=x2*1000000000+x1) (hu:1≤up) (hu2:up≤1000000000) (he:e=1000000000 / up) (hf:f=h*up+x0 / e) (hb:h*up<1000000000000000000) :
  Calls Tryz.prog 256 #[.agg #[.slice ap l.length cap],I ((t+2:Nat):Int),.int .u64 (up:Int)] w fun e w'=>e=.returned (.int .u64 (f:Int))∧Bw w w':=by
 have HX2:Hid (∀W:World,Below w.heap.size w W→Calls Tryz.prog 285 #[.agg #[.slice ap l.length cap],I ((t+2:Nat):Int)] W fun e w'=>e=.returned (.int .u64 (x2:Int))∧Bw W w'):=fun W hW=>by
  have:=limb_any ap l cap (t+2) W (hr.later hW);rw[e2]at this;exact this
 have HX1:Hid (∀W:World,Below w.heap.size w W→Calls Tryz.prog 285 #[.agg #[.slice ap l.length cap],I ((t:Int)+2 - 1)] W fun e w'=>e=.returned (.int .u64 (x1:Int))∧Bw W w'):=fun W hW=>by
  have:=limb_any ap l cap (t+1) W (hr.later hW);rw[e1,show((t+1:Nat):Int)=(t:Int)+2 - 1 by omega]at this;exact this
 have HX0:Hid (∀W:World,Below w.heap.size w W→Calls Tryz.prog 285 #[.agg #[.slice ap l.length cap],I (t:Int)] W fun e w'=>e=.returned (.int .u64 (x0:Int))∧Bw W w'):=fun W hW=>by
  have:=limb_any ap l cap t W (hr.later hW);rw[e0]at this;exact this
 generalize l.length=n at *
 clear e2 e1 e0 hr;have HHI:Hid ((x2:Int)*1000000000+(x1:Int)=(h:Int)):=by show _=_;omega
 have hB:h<1000000000000000000:=by omega
 have hup0:¬up=0:=by omega
 have he1:1≤e:=by rw[he];exact(Nat.le_div_iff_mul_le (by omega)).2 (by omega)
 have he2:e≤1000000000:=by rw[he];exact Nat.div_le_self _ _
 have he0:¬e=0:=by omega
 have hE:(1000000000:Int) / (up:Int)=(e:Int):=by rw[he];exact(Int.natCast_ediv 1000000000 up).symm
 have hxe:x0 / e≤x0:=Nat.div_le_self _ _
 have HF:Hid (IntKind.u64.wrap ((h:Int)*(up:Int)+IntKind.u64.wrap ((x0:Int) / (e:Int)))=(f:Int)):=by
  show _=_;rw[←Int.natCast_ediv,←Int.natCast_mul,IntKind.wrap_u64,IntKind.wrap_u64];generalize x0 / e=q at *
  generalize h*up=g at *
  omega
 clear he hf;go_enter Tryz.func256,Tryz.ntmps256
 go_upto_region 1 with fail
 obtain⟨W,hW⟩:∃W,W=w.alloc (.cells #[.slice ap n cap] 80):=⟨_,rfl⟩;have HW:Hid (Bw w W):=by rw[hW];exact bA
 have hsz:W.heap.size=w.heap.size+1:=by rw[hW];simp
 have hc:∀x:zBy W,x.world.cell? ⟨w.heap.size,0,none⟩=some (.slice ap n cap):=fun x=>by
  rw[x.below.cell (p:=⟨w.heap.size,0,none⟩) (by rw[hsz];exact Nat.lt_succ_self _),hW];simp[go_sem]
 rw[←hW];clear hW hh;refine zCz (by kernel_rfl) (by kernel_rfl) ?_
 iterate 4 (go_big_quiet_step ((rename_i xx;refine(un HX2 _ ((un HW).trans (xx.below.mono (un HW).size))).mono ?_;rintro e w9 ⟨rfl,hb9⟩;have hz:=xx.below.trans (hb9.mono xx.below.size);first|exact⟨rfl,⟨w9,hz⟩,rfl⟩|exact⟨rfl,hz⟩|exact⟨rfl,w9,hz,rfl⟩)))
 repeat (go_big_quiet_step ((rename_i xx;refine(un HX1 _ ((un HW).trans (xx.below.mono (un HW).size))).mono ?_;rintro e w9 ⟨rfl,hb9⟩;have hz:=xx.below.trans (hb9.mono xx.below.size);first|exact⟨rfl,⟨w9,hz⟩,rfl⟩|exact⟨rfl,hz⟩|exact⟨rfl,w9,hz,rfl⟩)))
 refine wpQuiet_nil ?_;intro _ hw';obtain⟨xz,hw''⟩:=hw';subst hw'';rw[un HHI];obtain⟨W2,hW2⟩:∃W2,W2=xz.world:=⟨_,rfl⟩;have HW2:Hid (Bw W W2):=by rw[hW2];exact xz.below
 have hc2:∀x:zBy W2,x.world.cell? ⟨w.heap.size,0,none⟩=some (.slice ap n cap):=fun x=>
  hc ⟨x.world,(un HW2).trans (x.below.mono (un HW2).size)⟩
 rw[←hW2];clear hW2 hc
 go_upto_region 2 with fail
 refine zCz (by kernel_rfl) (by kernel_rfl) ?_
 repeat (go_big_quiet_step ((rename_i xx;refine(un HX0 _ ((un HW).trans (((un HW2).trans (xx.below.mono (un HW2).size)).mono (un HW).size))).mono ?_;rintro e w9 ⟨rfl,hb9⟩;have hz:=xx.below.trans (hb9.mono xx.below.size);first|exact⟨rfl,⟨w9,hz⟩,rfl⟩|exact⟨rfl,hz⟩|exact⟨rfl,w9,hz,rfl⟩)))
 refine wpQuiet_nil ?_;intro _ hw';obtain⟨xy,hw''⟩:=hw';subst hw'';rw[un HF]
 go_wp2_with fail
 go_ret
 exact⟨rfl,(un HW).trans (((un HW2).trans (xy.below.mono (un HW2).size)).mono (un HW).size)⟩
end Go.Proofs.YtliadckofhblnaaGreatDoor

/- (Big).Cmp and nat.Cmp. -/
import Derived.Test.YtliadckofhblnaaGreatDoorLimb3
import Derived.Test.YtliadckofhblnaaGreatDoorOne
import Derived.BigQuiet
import Derived.Deep.Cut
import Derived.WalkSmall
import Derived.Deep.RegionWith
import Derived.Lib.ItoaMem
import Derived.Lib.ParseIntB
import GoSem.Op.String
import Derived.Deep.QuietTactic
set_option maxHeartbeats 2000000
set_option maxRecDepth 100000
namespace Go.Proofs.YtliadckofhblnaaGreatDoor
open Go.RowKit
def DivAns (k:Nat):Prop:=∀(W:World) (x y:Value) (m n:Nat),zAf W x m→zAf W y n→m<1000000000 ^ k→0<n→
 Calls Tryz.prog 149 #[x,y] W fun e w'=>∃a1 n1 c1 a2 n2 c2,e=.returned (.tuple #[.agg #[.slice a1 n1 c1],.agg #[.slice a2 n2 c2]])∧zAf w' (.agg #[.slice a1 n1 c1]) (m / n)∧zAf w' (.agg #[.slice a2 n2 c2]) (m % n)∧Bw W w'
def GcdAns (k:Nat):Prop:=∀(W:World) (x y:Value) (m n:Nat),zAf W x m→zAf W y n→m<1000000000 ^ k→n<1000000000 ^ k→
 Calls Tryz.prog 148 #[x,y] W fun e w'=>∃a l c,e=.returned (.agg #[.slice a l c])∧zAf w' (.agg #[.slice a l c]) (Nat.gcd m n)∧Bw W w'
structure LwSt (w W:World) (u v p q:Value):Prop where
 b1:Box W w.heap.size u
 b2:Box W (w.heap.size+1) v
 b3:Box W (w.heap.size+1+1) p
 b4:Box W (w.heap.size+1+1+1) q
 below:Below w.heap.size w W
theorem LwSt.later {w W V:World} {u v p q:Value} (s:LwSt w W u v p q) (hb:Below W.heap.size W V):LwSt w V u v p q :=
 ⟨s.b1.later hb,s.b2.later hb,s.b3.later hb,s.b4.later hb,s.below.trans (hb.mono s.below.size)⟩
theorem LwSt.first (w:World) (u v p q:Value):LwSt w ((((w.alloc (.cells #[u] 80)).alloc (.cells #[v] 80)).alloc (.cells #[p] 80)).alloc (.cells #[q] 80)) u v p q :=
 ⟨⟨by simp[go_sem],by simp[go_sem]⟩,⟨by simp[go_sem],by simp[go_sem]⟩,⟨by simp[go_sem],by simp[go_sem]⟩,⟨by simp[go_sem],by simp[go_sem]⟩,
  ((bA.alloc (by simp) _).alloc (by simp;omega) _).alloc (by simp;omega) _⟩
theorem LwSt.set3 {w W:World} {u v p q:Value} (s:LwSt w W u v p q) (x:Value):LwSt w (W.setCell ⟨w.heap.size+1+1,0,none⟩ x) u v x q :=
 ⟨s.b1.other (by omega) x,s.b2.other (by omega) x,s.b3.set x,s.b4.other (by omega) x,s.below.setCell (by simp;omega) _⟩
theorem LwSt.set4 {w W:World} {u v p q:Value} (s:LwSt w W u v p q) (x:Value):LwSt w (W.setCell ⟨w.heap.size+1+1+1,0,none⟩ x) u v p x :=
 ⟨s.b1.other (by omega) x,s.b2.other (by omega) x,s.b3.other (by omega) x,s.b4.set x,s.below.setCell (by simp;omega) _⟩
theorem LwSt.set1 {w W:World} {u v p q:Value} (s:LwSt w W u v p q) (x:Value):LwSt w (W.setCell ⟨w.heap.size,0,none⟩ x) x v p q :=
 ⟨s.b1.set x,s.b2.other (by omega) x,s.b3.other (by omega) x,s.b4.other (by omega) x,s.below.setCell (by simp) _⟩
theorem LwSt.set2 {w W:World} {u v p q:Value} (s:LwSt w W u v p q) (x:Value):LwSt w (W.setCell ⟨w.heap.size+1,0,none⟩ x) u x p q :=
 ⟨s.b1.other (by omega) x,s.b2.set x,s.b3.other (by omega) x,s.b4.other (by omega) x,s.below.setCell (by simp) _⟩
theorem zAp (a:Option Addr) (l c:Nat):∀k n,(Value.slice a l c)≠.int k n:=fun _ _ e=>by cases e
theorem zEy (x y:Value) (m n k:Nat) (w:World) (hx:zAf w x m) (hy:zAf w y n) (hm:m<1000000000 ^ k) (hn:n<1000000000 ^ k) (h0:0<n) (hD:DivAns k) (hG:GcdAns k) :
 Calls Tryz.prog 152 #[x,y] w fun e w'=>∃a1 l1 c1 a2 l2 c2,e=.returned (.tuple #[.agg #[.slice a1 l1 c1],.agg #[.slice a2 l2 c2]])∧zAf w' (.agg #[.slice a1 l1 c1]) (m / Nat.gcd m n)∧zAf w' (.agg #[.slice a2 l2 c2]) (n / Nat.gcd m n)∧Bw w w':=by
 have HX:=zAb hx;have HY:=zAb hy;obtain⟨ap,np,cp,rfl⟩:=hx.shape;obtain⟨aq,nq,cq,rfl⟩:=hy.shape;have H51x:Hid (∀W,zAf W (.agg #[.slice ap np cp]) m→Calls Tryz.prog 188 #[.agg #[.slice ap np cp]] W fun e w'=>e=.returned (.bool (m == 1))∧Bw W w'):=fun W h=>zCu _ m W h
 have H51y:Hid (∀W,zAf W (.agg #[.slice aq nq cq]) n→Calls Tryz.prog 188 #[.agg #[.slice aq nq cq]] W fun e w'=>e=.returned (.bool (n == 1))∧Bw W w'):=fun W h=>zCu _ n W h
 have HD:=zAb hD;have HG:=zAb hG;have HM:=zAb hm;have HNN:=zAb hn;have H0:=zAb h0;clear hx hy hm hn h0 hD hG;have HS0:=zAb (LwSt.first w (.slice ap np cp) (.slice aq nq cq) (.slice none 0 0) (.slice none 0 0));go_enter Tryz.func152,Tryz.ntmps152
 by_cases h1:m=1
 ·have hg:m / Nat.gcd m n=m∧n / Nat.gcd m n=n:=by rw[h1];simp
  rw[hg.1,hg.2];rw[show(m == 1)=true by rw[h1];rfl]at H51x;clear hg h1
  go_upto_region 2 with (go_at_call_of 188 (Value.agg #[Value.slice ap np cp]);go_must(refine(un H51x _ ((un HX).later (un HS0).below)).mono ?_;rintro e w1 ⟨rfl,hb1⟩;have HS:=zAb ((un HS0).later hb1);have HX1:=zAb (((un HX).later (un HS0).below).later hb1);have HY1:=zAb (((un HY).later (un HS0).below).later hb1);have b1:=(un HS).b1.c;have b2:=(un HS).b2.c;clear hb1))
  clear HS0 b1 b2;have b1:=(un HS).b1.c;have b2:=(un HS).b2.c;have b3:=(un HS).b3.c;have b4:=(un HS).b4.c;have f3:=(un HS).b3.f;have f4:=(un HS).b4.f
  go_region
  obtain⟨V,hV⟩:∃V,V=(((w1.setCell ⟨w.heap.size+1+1,0,none⟩ (.slice ap np cp)).setCell ⟨w.heap.size+1+1+1,0,none⟩ (.slice aq nq cq)).drew):=⟨_,rfl⟩
  have HE:Hid (LwSt w V (.slice ap np cp) (.slice aq nq cq) (.slice ap np cp) (.slice aq nq cq)∧zAf V (.agg #[.slice ap np cp]) m∧zAf V (.agg #[.slice aq nq cq]) n):=by
   rw[hV];refine⟨(((un HS).set3 _).set4 _).later ((Below.refl _ _).drew),?_,?_⟩
   ·exact(((un HX1).box _ (un HS).b3.c (zAp _ _ _)).box _ ((un HS).set3 _).b4.c (zAp _ _ _)).later ((Below.refl _ _).drew)
   ·exact(((un HY1).box _ (un HS).b3.c (zAp _ _ _)).box _ ((un HS).set3 _).b4.c (zAp _ _ _)).later ((Below.refl _ _).drew)
  rw[←hV];clear hV b1 b2 b3 b4 f3 f4;have d3:=(un HE).1.b3.c;have d4:=(un HE).1.b4.c
  go_wp2_with fail
  exact bodyPost_ret (v:=.tuple #[.agg #[.slice ap np cp],.agg #[.slice aq nq cq]]) (by simp[results,Tryz.results152,go_sem,d3,d4]) rfl ⟨_,_,_,_,_,_,rfl,(un HE).2.1,(un HE).2.2,(un HE).1.below⟩
 ·rw [show(m == 1)=false by rw[beq_eq_false_iff_ne];exact h1]at H51x
  by_cases h2:n=1
  ·have hg:m / Nat.gcd m n=m∧n / Nat.gcd m n=n:=by rw[h2];simp
   rw[hg.1,hg.2];rw[show(n == 1)=true by rw[h2];rfl]at H51y;clear hg h1 h2
   go_upto_region 2 with (first
    | (go_at_call_of 188 (Value.agg #[Value.slice ap np cp]);go_must(refine(un H51x _ ((un HX).later (un HS0).below)).mono ?_;rintro e w1 ⟨rfl,hb1⟩;have HS:=zAb ((un HS0).later hb1);have HX1:=zAb (((un HX).later (un HS0).below).later hb1);have HY1:=zAb (((un HY).later (un HS0).below).later hb1);have b1:=(un HS).b1.c;have b2:=(un HS).b2.c;clear hb1))
    | (go_at_call_of 188 (Value.agg #[Value.slice aq nq cq]);go_must(refine(un H51y w1 (un HY1)).mono ?_;rintro e w2 ⟨rfl,hb2⟩;have HS2:=zAb ((un HS).later hb2);have HX2:=zAb ((un HX1).later hb2);have HY2:=zAb ((un HY1).later hb2);clear b1 b2 hb2;have b1:=(un HS2).b1.c;have b2:=(un HS2).b2.c)))
   clear HS0 b1 b2;have b1:=(un HS2).b1.c;have b2:=(un HS2).b2.c;have b3:=(un HS2).b3.c;have b4:=(un HS2).b4.c;have f3:=(un HS2).b3.f;have f4:=(un HS2).b4.f
   go_region
   obtain⟨V,hV⟩:∃V,V=(((w2.setCell ⟨w.heap.size+1+1,0,none⟩ (.slice ap np cp)).setCell ⟨w.heap.size+1+1+1,0,none⟩ (.slice aq nq cq)).drew):=⟨_,rfl⟩
   have HE:Hid (LwSt w V (.slice ap np cp) (.slice aq nq cq) (.slice ap np cp) (.slice aq nq cq)∧zAf V (.agg #[.slice ap np cp]) m∧zAf V (.agg #[.slice aq nq cq]) n):=by
    rw[hV];refine⟨(((un HS2).set3 _).set4 _).later ((Below.refl _ _).drew),?_,?_⟩
    ·exact(((un HX2).box _ (un HS2).b3.c (zAp _ _ _)).box _ ((un HS2).set3 _).b4.c (zAp _ _ _)).later ((Below.refl _ _).drew)
    ·exact(((un HY2).box _ (un HS2).b3.c (zAp _ _ _)).box _ ((un HS2).set3 _).b4.c (zAp _ _ _)).later ((Below.refl _ _).drew)
   rw[←hV];clear hV b1 b2 b3 b4 f3 f4;have d3:=(un HE).1.b3.c;have d4:=(un HE).1.b4.c
   go_wp2_with fail
   exact bodyPost_ret (v:=.tuple #[.agg #[.slice ap np cp],.agg #[.slice aq nq cq]]) (by simp[results,Tryz.results152,go_sem,d3,d4]) rfl ⟨_,_,_,_,_,_,rfl,(un HE).2.1,(un HE).2.2,(un HE).1.below⟩
  ·rw[show(n == 1)=false by rw[beq_eq_false_iff_ne];exact h2]at H51y
   clear h1 h2
   go_upto_region 4 with (first
    | (go_at_call_of 188 (Value.agg #[Value.slice ap np cp]);go_must(refine(un H51x _ ((un HX).later (un HS0).below)).mono ?_;rintro e w1 ⟨rfl,hb1⟩;have HS:=zAb ((un HS0).later hb1);have HX1:=zAb (((un HX).later (un HS0).below).later hb1);have HY1:=zAb (((un HY).later (un HS0).below).later hb1);have b1:=(un HS).b1.c;have b2:=(un HS).b2.c;clear hb1))
    | (go_at_call_of 188 (Value.agg #[Value.slice aq nq cq]);go_must(refine(un H51y w1 (un HY1)).mono ?_;rintro e w2 ⟨rfl,hb2⟩;have HS2:=zAb ((un HS).later hb2);have HX2:=zAb ((un HX1).later hb2);have HY2:=zAb ((un HY1).later hb2);clear b1 b2 hb2;have b1:=(un HS2).b1.c;have b2:=(un HS2).b2.c))
    | (go_at_call 148;go_must(refine(un HG w2 _ _ m n (un HX2) (un HY2) (un HM) (un HNN)).mono ?_;rintro e w3 ⟨ag,lg,cg,rfl,hg3,hb3⟩;have HS3:=zAb ((un HS2).later hb3);have HX3:=zAb ((un HX2).later hb3);have HY3:=zAb ((un HY2).later hb3);have HG3:=zAb hg3;clear b1 b2 hg3 hb3)))
   clear HS0;obtain⟨V,hV⟩:∃V,V=w3.alloc (.cells #[.slice ag lg cg] 80):=⟨_,rfl⟩;have hbV:Below w3.heap.size w3 V:=by rw[hV];exact bA
   have HS4:=zAb ((un HS3).later hbV);have HX4:=zAb ((un HX3).later hbV);have HY4:=zAb ((un HY3).later hbV);have HG4:=zAb ((un HG3).later hbV);have HB4:Hid (Box V w3.heap.size (.slice ag lg cg)):=by rw[hV];exact⟨by simp[go_sem],by simp[go_sem]⟩
   have hlt:w.heap.size+1+1+1<w3.heap.size:=(un HS3).b4.lt;rw[←hV];clear hV hbV HS3 HX3 HY3 HG3 HS2 HX2 HY2 HS HX1 HY1;generalize hgb:w3.heap.size=gb at *
   clear hgb;have H51g:Hid (∀W,zAf W (.agg #[.slice ag lg cg]) (Nat.gcd m n)→Calls Tryz.prog 188 #[.agg #[.slice ag lg cg]] W fun e w'=>e=.returned (.bool (Nat.gcd m n == 1))∧Bw W w'):=fun W h=>zCu _ _ W h
   have q6:=(un HB4).c
   by_cases h3:Nat.gcd m n=1
   ·have HGE:Hid (m / Nat.gcd m n=m∧n / Nat.gcd m n=n):=⟨by rw[h3];simp,by rw[h3];simp⟩
    rw[show(Nat.gcd m n == 1)=true by rw[h3];rfl]at H51g;clear h3
    go_upto_region 5 with (go_at_call 188;go_must(refine(un H51g V (un HG4)).mono ?_;rintro e w4 ⟨rfl,hb4⟩;have HS5:=zAb ((un HS4).later hb4);have HX5:=zAb ((un HX4).later hb4);have HY5:=zAb ((un HY4).later hb4);clear hb4 q6))
    clear HS4 HX4 HY4 HG4 HB4;have b1:=(un HS5).b1.c;have b2:=(un HS5).b2.c;have b3:=(un HS5).b3.c;have b4:=(un HS5).b4.c;have f3:=(un HS5).b3.f;have f4:=(un HS5).b4.f
    go_region
    obtain⟨V,hV⟩:∃V,V=(((w4.setCell ⟨w.heap.size+1+1,0,none⟩ (.slice ap np cp)).setCell ⟨w.heap.size+1+1+1,0,none⟩ (.slice aq nq cq)).drew):=⟨_,rfl⟩
    have HE:Hid (LwSt w V (.slice ap np cp) (.slice aq nq cq) (.slice ap np cp) (.slice aq nq cq)∧zAf V (.agg #[.slice ap np cp]) m∧zAf V (.agg #[.slice aq nq cq]) n):=by
     rw[hV];refine⟨(((un HS5).set3 _).set4 _).later ((Below.refl _ _).drew),?_,?_⟩
     ·exact(((un HX5).box _ (un HS5).b3.c (zAp _ _ _)).box _ ((un HS5).set3 _).b4.c (zAp _ _ _)).later ((Below.refl _ _).drew)
     ·exact(((un HY5).box _ (un HS5).b3.c (zAp _ _ _)).box _ ((un HS5).set3 _).b4.c (zAp _ _ _)).later ((Below.refl _ _).drew)
    rw[←hV];clear hV b1 b2 b3 b4 f3 f4;have d3:=(un HE).1.b3.c;have d4:=(un HE).1.b4.c
    go_wp2_with fail
    exact bodyPost_ret (v:=.tuple #[.agg #[.slice ap np cp],.agg #[.slice aq nq cq]]) (by simp[results,Tryz.results152,go_sem,d3,d4]) rfl ⟨_,_,_,_,_,_,rfl,(by rw[(un HGE).1];exact(un HE).2.1),(by rw[(un HGE).2];exact(un HE).2.2),(un HE).1.below⟩
   ·have HGP:Hid (0<Nat.gcd m n):=Nat.gcd_pos_of_pos_right _ (un H0)
    rw[show(Nat.gcd m n == 1)=false by rw[beq_eq_false_iff_ne];exact h3]at H51g;clear h3
    go_upto_region 6 with (go_at_call 188;go_must(refine(un H51g V (un HG4)).mono ?_;rintro e w4 ⟨rfl,hb4⟩;have HS5:=zAb ((un HS4).later hb4);have HX5:=zAb ((un HX4).later hb4);have HY5:=zAb ((un HY4).later hb4);have HG5:=zAb ((un HG4).later hb4);have HB5:=zAb ((un HB4).later hb4);clear hb4 q6))
    clear HS4 HX4 HY4 HG4 HB4;have b1:=(un HS5).b1.c;have b2:=(un HS5).b2.c;have q6:=(un HB5).c
    go_upto_region 7 with (go_at_call 149;go_must(refine(un HD w4 _ _ m (Nat.gcd m n) (un HX5) (un HG5) (un HM) (un HGP)).mono ?_;rintro e w5 ⟨a1,l1,c1,a2,l2,c2,rfl,hq,hr,hb5⟩;have HS6:=zAb ((un HS5).later hb5);have HY6:=zAb ((un HY5).later hb5);have HG6:=zAb ((un HG5).later hb5);have HB6:=zAb ((un HB5).later hb5);have HQ6:=zAb hq;clear hb5 hq hr b1 b2 q6;have b1:=(un HS6).b1.c;have f1:=(un HS6).b1.f))
    obtain⟨V6,hV6⟩:∃V6,V6=w5.setCell ⟨w.heap.size,0,none⟩ (.slice a1 l1 c1):=⟨_,rfl⟩;have HS7:Hid (LwSt w V6 (.slice a1 l1 c1) (.slice aq nq cq) (.slice none 0 0) (.slice none 0 0)):=by rw[hV6];exact(un HS6).set1 _
    have HY7:Hid (zAf V6 (.agg #[.slice aq nq cq]) n):=by rw[hV6];exact(un HY6).box _ b1 (zAp _ _ _)
    have HG7:Hid (zAf V6 (.agg #[.slice ag lg cg]) (Nat.gcd m n)):=by rw[hV6];exact(un HG6).box _ b1 (zAp _ _ _)
    have HQ7:Hid (zAf V6 (.agg #[.slice a1 l1 c1]) (m / Nat.gcd m n)):=by rw[hV6];exact(un HQ6).box _ b1 (zAp _ _ _)
    have HB7:Hid (Box V6 gb (.slice ag lg cg)):=by rw[hV6];exact(un HB6).other (by omega) _
    rw[←hV6];clear hV6 HS6 HY6 HG6 HQ6 HB6 HS5 HX5 HY5 HG5 HB5 b1 f1;have b2:=(un HS7).b2.c;have q6:=(un HB7).c
    go_upto_region 8 with (go_at_call 149;go_must(refine(un HD V6 _ _ n (Nat.gcd m n) (un HY7) (un HG7) (un HNN) (un HGP)).mono ?_;rintro e w7 ⟨a3,l3,c3,a4,l4,c4,rfl,hq,hr,hb7⟩;have HS8:=zAb ((un HS7).later hb7);have HQ8:=zAb ((un HQ7).later hb7);have HR8:=zAb hq;clear hb7 hq hr b2 q6;have b2:=(un HS8).b2.c;have f2:=(un HS8).b2.f))
    obtain⟨V8,hV8⟩:∃V8,V8=w7.setCell ⟨w.heap.size+1,0,none⟩ (.slice a3 l3 c3):=⟨_,rfl⟩;have HS9:Hid (LwSt w V8 (.slice a1 l1 c1) (.slice a3 l3 c3) (.slice none 0 0) (.slice none 0 0)):=by rw[hV8];exact(un HS8).set2 _
    have HQ9:Hid (zAf V8 (.agg #[.slice a1 l1 c1]) (m / Nat.gcd m n)):=by rw[hV8];exact(un HQ8).box _ b2 (zAp _ _ _)
    have HR9:Hid (zAf V8 (.agg #[.slice a3 l3 c3]) (n / Nat.gcd m n)):=by rw[hV8];exact(un HR8).box _ b2 (zAp _ _ _)
    rw[←hV8];clear hV8 HS8 HQ8 HR8 HS7 HY7 HG7 HQ7 HB7 b2 f2;have b1:=(un HS9).b1.c;have b2:=(un HS9).b2.c;have b3:=(un HS9).b3.c;have b4:=(un HS9).b4.c;have f3:=(un HS9).b3.f;have f4:=(un HS9).b4.f
    go_region
    obtain⟨V,hV⟩:∃V,V=(((V8.setCell ⟨w.heap.size+1+1,0,none⟩ (.slice a1 l1 c1)).setCell ⟨w.heap.size+1+1+1,0,none⟩ (.slice a3 l3 c3)).drew):=⟨_,rfl⟩
    have HE:Hid (LwSt w V (.slice a1 l1 c1) (.slice a3 l3 c3) (.slice a1 l1 c1) (.slice a3 l3 c3)∧zAf V (.agg #[.slice a1 l1 c1]) (m / Nat.gcd m n)∧zAf V (.agg #[.slice a3 l3 c3]) (n / Nat.gcd m n)):=by
     rw[hV];refine⟨(((un HS9).set3 _).set4 _).later ((Below.refl _ _).drew),?_,?_⟩
     ·exact(((un HQ9).box _ (un HS9).b3.c (zAp _ _ _)).box _ ((un HS9).set3 _).b4.c (zAp _ _ _)).later ((Below.refl _ _).drew)
     ·exact(((un HR9).box _ (un HS9).b3.c (zAp _ _ _)).box _ ((un HS9).set3 _).b4.c (zAp _ _ _)).later ((Below.refl _ _).drew)
    rw[←hV];clear hV b1 b2 b3 b4 f3 f4;have d3:=(un HE).1.b3.c;have d4:=(un HE).1.b4.c
    go_wp2_with fail
    exact bodyPost_ret (v:=.tuple #[.agg #[.slice a1 l1 c1],.agg #[.slice a3 l3 c3]]) (by simp[results,Tryz.results152,go_sem,d3,d4]) rfl ⟨_,_,_,_,_,_,rfl,(un HE).2.1,(un HE).2.2,(un HE).1.below⟩
end Go.Proofs.YtliadckofhblnaaGreatDoor
namespace Cub
theorem lval_set (B:Nat):∀(l:List Nat) (i:Nat) (x:Nat) (h:i<l.length),lval B (l.set i x)+B ^ i*l[i]=lval B l+B ^ i*x:=by
 intro l
 induction l with
 | nil=>intro i x h;simp at h
 | cons a l ih=>
  intro i x h
  cases i with
  | zero=>simp[lval];omega
  | succ i=>
   have hi:i<l.length:=by simpa using h
   have e:=ih i x hi
   simp only[List.set_cons_succ,lval,List.getElem_cons_succ,Nat.pow_succ]
   have e2:=congrArg (B*·) e
   simp only[Nat.mul_add]at e2
   have m1:B ^ i*B*l[i]=B*(B ^ i*l[i]):=by rw[Nat.mul_comm (B ^ i) B,Nat.mul_assoc]
   have m2:B ^ i*B*x=B*(B ^ i*x):=by rw[Nat.mul_comm (B ^ i) B,Nat.mul_assoc]
   omega
theorem limbs_set {B:Nat} {l:List Nat} (h:limbs B l) (i x:Nat) (hx:x<B):limbs B (l.set i x):=by
 intro y hy
 rcases List.mem_or_eq_of_mem_set hy with h1|h1
 ·exact h y h1
 ·omega
theorem take_val (l:List Nat) (i:Nat) (h:i<l.length):lval 1000000000 (l.take (i+1))=lval 1000000000 (l.take i)+1000000000 ^ i*l[i]:=by
 rw[List.take_succ_eq_append_getElem h,lval_snoc,List.length_take,Nat.min_eq_left (by omega)]
theorem take_val' (l:List Nat) (i:Nat) (h:l.length≤i):lval 1000000000 (l.take (i+1))=lval 1000000000 (l.take i):=by
 rw[List.take_of_length_le (by omega),List.take_of_length_le h]
end Cub
namespace Go.Proofs.YtliadckofhblnaaGreatDoor
open Go.RowKit
theorem Tryz.size168:(Tryz.prog.info? 168).map (·.size)=some 1:=by kernel_rfl
def Cells (w:World) (a:Option Addr) (l:List Nat):Prop :=
 ∀W,Below w.heap.size w W→∀i (hi:i<l.length),∃b o,a=some ⟨b,o,none⟩∧W.cell? ⟨b,o+i,none⟩=some (.int .u64 (l[i]:Int))
theorem Row.cells {w:World} {a:Option Addr} {n cap:Nat} {l:List Nat} (h:Row w (.slice a n cap) l):n=l.length∧n≤cap∧cap≤9223372036854775807∧Cells w a l:=by
 obtain⟨a',cap',e,hc,hm,hr⟩:=h;simp only[Value.slice.injEq]at e;obtain⟨rfl,rfl,rfl⟩:=e;refine⟨rfl,hc,hm,fun W hW i hi=>?_⟩;obtain⟨b,o,rfl,hlt,hcell⟩:=hr (fun e=>by rw[e]at hi;simp at hi);exact⟨b,o,rfl,(hW.cell (p:=⟨b,o+i,none⟩) hlt).trans (hcell i hi)⟩
theorem Cells.src {w W:World} {a:Option Addr} {l:List Nat} (h:Cells w a l) (hW:Below w.heap.size w W) (h0:0<l.length) :
  ∃ad,a=some ad∧∀j v,(zCx l)[j]?=some v→W.cell? (ad.add j)=some v:=by
 obtain⟨b,o,rfl,_⟩:=h W hW 0 h0;refine⟨⟨b,o,none⟩,rfl,fun j v hj=>?_⟩
 have hjl:j<l.length:=by
  have:=(List.getElem?_eq_some_iff.1 hj).1
  rwa [u64s_length]at this
 rw[u64s_get l j hjl,Option.some.injEq]at hj;obtain⟨b',o',e,hc⟩:=h W hW j hjl;simp only[Option.some.injEq,Addr.mk.injEq]at e;obtain⟨rfl,rfl,_⟩:=e;rw[Lib.add_plain,hc,hj]
theorem zGd (l:List Nat):∀v∈zCx l,v.oneCell'=true:=by
 intro v hv;simp only[zCx,List.mem_map]at hv;obtain⟨x,_,rfl⟩:=hv
 rfl
structure Boxes3 (w w4:World) (a b c:Value):Prop where
 c1:w4.cell? ⟨w.heap.size,0,none⟩=some a
 c2:w4.cell? ⟨w.heap.size+1,0,none⟩=some b
 c3:w4.cell? ⟨w.heap.size+1+1,0,none⟩=some c
 f3:w4.frozen? ⟨w.heap.size+1+1,0,none⟩=false
 below:Below w.heap.size w w4
 size:w.heap.size+3≤w4.heap.size
theorem boxes3 {w w4:World} {a b c:Value} (hb:Below (w.heap.size+3) (((w.alloc (.cells #[a] 80)).alloc (.cells #[b] 80)).alloc (.cells #[c] 80)) w4):Boxes3 w w4 a b c:=by
 refine⟨?_,?_,?_,?_,?_,?_⟩
 ·rw[hb.cell (p:=⟨w.heap.size,0,none⟩) (show w.heap.size<w.heap.size+3 by omega)];simp[go_sem]
 ·rw[hb.cell (p:=⟨w.heap.size+1,0,none⟩) (show w.heap.size+1<w.heap.size+3 by omega)];simp[go_sem]
 ·rw[hb.cell (p:=⟨w.heap.size+1+1,0,none⟩) (show w.heap.size+1+1<w.heap.size+3 by omega)];simp[go_sem]
 ·rw[hb.frozen (p:=⟨w.heap.size+1+1,0,none⟩) (show w.heap.size+1+1<w.heap.size+3 by omega)];simp[go_sem]
 ·exact((bA.alloc (by simp) _).alloc (by simp;omega) _).trans (hb.mono (by omega))
 ·have:=hb.size;simp at this;omega
theorem Boxes3.on {w w4 w5:World} {a b c:Value} (h:Boxes3 w w4 a b c) (hb:Below (w.heap.size+3) w4 w5):Boxes3 w w5 a b c :=
 ⟨(hb.cell (p:=⟨w.heap.size,0,none⟩) (show w.heap.size<w.heap.size+3 by omega)).trans h.c1,(hb.cell (p:=⟨w.heap.size+1,0,none⟩) (show w.heap.size+1<w.heap.size+3 by omega)).trans h.c2,
  (hb.cell (p:=⟨w.heap.size+1+1,0,none⟩) (show w.heap.size+1+1<w.heap.size+3 by omega)).trans h.c3,(hb.frozen (p:=⟨w.heap.size+1+1,0,none⟩) (show w.heap.size+1+1<w.heap.size+3 by omega)).trans h.f3,
  h.below.trans (hb.mono (by omega)),by have:=hb.size;have:=h.size;omega⟩
end Go.Proofs.YtliadckofhblnaaGreatDoor
namespace Cub
structure TakeInv (T:Nat) (F0 L F:List Nat) (m i:Nat):Prop where
 len:F.length=F0.length
 lim:limbs 1000000000 F
 val:lval 1000000000 F+T*lval 1000000000 (L.take i)=lval 1000000000 F0+1000000000 ^ i*m
 miss:m≤T
theorem TakeInv.start {T:Nat} {F0:List Nat} (L:List Nat) (h:limbs 1000000000 F0):TakeInv T F0 L F0 0 0:=⟨rfl,h,by simp[lval],Nat.zero_le _⟩
theorem take9 (l:List Nat) (i:Nat):lval 1000000000 (l.take (i+1))=lval 1000000000 (l.take i)+1000000000 ^ i*l.getD i 0:=by
 by_cases h:i<l.length
 ·rw[List.take_succ_eq_append_getElem h,lval_snoc,List.length_take,Nat.min_eq_left (by omega)]
  simp[List.getD,h]
 ·rw[List.take_of_length_le (by omega),List.take_of_length_le (by omega)]
  simp[List.getD,Nat.le_of_not_lt h]
theorem TakeInv.step {T:Nat} {F0 L F:List Nat} {m i q d b:Nat} (h:TakeInv T F0 L F m i) (hi:i<F.length) (hq:q=m+T*L.getD i 0) (hd:d<1000000000) (_hb:b≤1)
 (he:d+q % 1000000000=F[i]+1000000000*b) (hb0:q % 1000000000=0→b=0) (hL:L.getD i 0<1000000000):TakeInv T F0 L (F.set i d) (q / 1000000000+b) (i+1):=by
 refine⟨by simp[h.len],limbs_set h.lim i _ hd,?_,?_⟩
 ·have e1:=lval_set 1000000000 F i d hi
  have e2:=h.val;rw[take9,Nat.mul_add,Nat.pow_succ];have e3:q=1000000000*(q / 1000000000)+q % 1000000000:=(Nat.div_add_mod _ _).symm;have e4:=congrArg (1000000000 ^ i*·) he;have e5:=congrArg (1000000000 ^ i*·) e3;have e6:=congrArg (1000000000 ^ i*·) hq;simp only[Nat.mul_add]at e4 e5 e6;have m1:T*(1000000000 ^ i*L.getD i 0)=1000000000 ^ i*(T*L.getD i 0):=by rw[Nat.mul_left_comm]
  have m2:1000000000 ^ i*1000000000*(q / 1000000000+b)=1000000000 ^ i*(1000000000*(q / 1000000000))+1000000000 ^ i*(1000000000*b):=by
   rw[Nat.mul_assoc,←Nat.mul_add,←Nat.mul_add]
  omega
 ·have h1:=h.miss
  have h2:T*L.getD i 0≤T*999999999:=Nat.mul_le_mul_left _ (by omega);have h3:q≤1000000000*T:=by omega
  by_cases h0:q % 1000000000=0
  ·rw[hb0 h0];omega
  ·omega
end Cub
namespace Go.Proofs.YtliadckofhblnaaGreatDoor
open Go.RowKit
theorem Own.below {w w':World} {g g':Nat} {l:List Nat} (h:Own w g' l) (hb:Below g w w') (hg:g'<g):Own w' g' l:=(hb.block g' hg).trans h
theorem takeAway_any (g n cap:Nat) (F0 L:List Nat) (ab:Option Addr) (nb cb T:Nat) (w:World) (hF:Own w g F0) (hn:n=F0.length) (hn1:n≤10000000) (hlF:Cub.limbs 1000000000 F0)
 (hnb:nb=L.length) (hnbn:nb≤n) (hlL:Cub.limbs 1000000000 L) (hcap:n≤cap) (hT:T<1000000000) (hc:∀W,Below g w W→∀i (hi:i<L.length),∃b o,ab=some ⟨b,o,none⟩∧W.cell? ⟨b,o+i,none⟩=some (.int .u64 (L[i]:Int))) :
 Calls Tryz.prog 259 #[.slice (some ⟨g,0,none⟩) n cap,.slice ab nb cb,.int .u64 (T:Int)] w fun e w'=>∃(m:Nat) (F:List Nat),e=.returned (.int .u64 (m:Int))∧Own w' g F∧F.length=n∧Cub.limbs 1000000000 F∧Cub.lval 1000000000 F+T*Cub.lval 1000000000 L=Cub.lval 1000000000 F0+1000000000 ^ n*m∧m≤T∧Below g w w':=by
 have HN:=zAb (And.intro hn hnb);have HC:=zAb hc;have HL:=zAb (And.intro hlF hlL);have HF:=zAb hF;clear hn hnb hc hlF hlL hF;go_enter Tryz.func259,Tryz.ntmps259
 go_wp2
 go_loopw [7,12] (fun c t wr=>∃(m i:Nat) (F:List Nat),c=.int .u64 (m:Int)∧t=I (i:Int)∧i≤n∧m≤T∧Hid (Cub.TakeInv T F0 L F m i)∧Hid (Own wr g F)∧Hid (Below g w wr)) (fun _ t _=>n - (intOf t).toNat)
 case atStart=>exact⟨0,0,F0,rfl,rfl,by omega,by omega,Cub.TakeInv.start L (un HL).1,HF,Below.refl _ _⟩
 case round=>
  obtain⟨m,i,F,rfl,rfl,hi,hm,HI,HO,HB⟩:=hrel;have hFl:Hid (F.length=n):=by rw[(un HI).len];exact(un HN).1.symm
  by_cases hin:i<n
  ·by_cases hbrk:nb≤i∧m=0
   ·obtain⟨h1,rfl⟩:=hbrk
    have HV:Hid (Cub.lval 1000000000 F+T*Cub.lval 1000000000 L=Cub.lval 1000000000 F0+1000000000 ^ n*0):=by
     have h:=(un HI).val;rw[List.take_of_length_le (by have:=(un HN).2;omega)]at h;rw[Nat.mul_zero]at h ⊢;exact h
    go_wp2
    go_ret
    exact⟨0,F,rfl,un HO,un hFl,(un HI).lim,un HV,by omega,un HB⟩
   ·have hiF:i<F.length:=by rw[un hFl];exact hin
    obtain⟨f,hf⟩:∃f,f=F[i]:=⟨_,rfl⟩;have hfB:f<1000000000:=by rw[hf];exact(un HI).lim _ (List.getElem_mem hiF)
    have hcf:=(un HO).cell i hiF;rw[←hf]at hcf;have hff:=(un HO).frozen i;have HFv:=zAb hf;obtain⟨lv,hlv⟩:∃lv,lv=L.getD i 0:=⟨_,rfl⟩
    have hlB:lv<1000000000:=by
     rw[hlv]
     by_cases h:i<L.length
     ·simp only[List.getD,List.getElem?_eq_getElem h,Option.getD_some];exact(un HL).2 _ (List.getElem_mem h)
     ·simp[List.getD,Nat.le_of_not_lt h]
    have HLB:Hid (L.getD i 0<1000000000):=by rw[←hlv];exact hlB
    by_cases hib:i<nb
    ·have hiL:i<L.length:=by have:=(un HN).2;omega
     obtain⟨b,o,rfl,hcl⟩:=un HC wr (un HB) i hiL;rw[show L[i]=lv by rw[hlv,List.getD_eq_getElem?_getD,List.getElem?_eq_getElem hiL];rfl]at hcl;obtain⟨pr,hpr⟩:∃pr,pr=T*lv:=⟨_,rfl⟩;have hprB:pr≤999999998000000001:=by rw[hpr];exact Nat.mul_le_mul (show T≤999999999 by omega) (show lv≤999999999 by omega)
     have hmul:(T:Int)*(lv:Int)=(pr:Int):=by rw[hpr];simp
     have HQ:Hid (m+pr=m+T*L.getD i 0):=by rw[hpr,←hlv];exact rfl
     clear hf hlv hpr hbrk
     by_cases hbor:f<(m+pr) % 1000000000
     ·have HI':Hid (Cub.TakeInv T F0 L (F.set i (f+1000000000 - (m+pr) % 1000000000)) ((m+pr) / 1000000000+1) (i+1)) :=
      (un HI).step hiF (un HQ) (by omega) (by omega) (by rw[←un HFv];omega) (by omega) (un HLB)
      have HO':Hid (Own ((wr.setCell ⟨g,i,none⟩ (.int .u64 ((f:Int)+1000000000))).setCell ⟨g,i,none⟩ (.int .u64 ((f:Int)+1000000000 - ((m:Int)+(pr:Int)) % 1000000000))) g (F.set i (f+1000000000 - (m+pr) % 1000000000))):=by
       have h:=((un HO).set i (f+1000000000)).set i (f+1000000000 - (m+pr) % 1000000000);rw[List.set_set]at h;rw[show((f+1000000000:Nat):Int)=(f:Int)+1000000000 by omega,show((f+1000000000 - (m+pr) % 1000000000:Nat):Int)=(f:Int)+1000000000 - ((m:Int)+(pr:Int)) % 1000000000 by omega]at h;exact h
      have HB':Hid (Below g w ((wr.setCell ⟨g,i,none⟩ (.int .u64 ((f:Int)+1000000000))).setCell ⟨g,i,none⟩ (.int .u64 ((f:Int)+1000000000 - ((m:Int)+(pr:Int)) % 1000000000)))):=((un HB).setCell (Nat.le_refl _) _).setCell (Nat.le_refl _) _;have hbi:(f:Int)<((m:Int)+(pr:Int)) % 1000000000:=by omega
      clear HI HO HB
      go_wp2
      go_roundw
      case rel=>exact⟨(m+pr) / 1000000000+1,i+1,_,by go_num,by go_num,by omega,(un HI').miss,HI',HO',HB'⟩
      case measure=>simp[intOf];omega
     ·have HI':Hid (Cub.TakeInv T F0 L (F.set i (f - (m+pr) % 1000000000)) ((m+pr) / 1000000000+0) (i+1)) :=
      (un HI).step hiF (un HQ) (by omega) (by omega) (by rw[←un HFv];omega) (fun _=>rfl) (un HLB)
      have HO':Hid (Own (wr.setCell ⟨g,i,none⟩ (.int .u64 ((f:Int) - ((m:Int)+(pr:Int)) % 1000000000))) g (F.set i (f - (m+pr) % 1000000000))):=by
       have h:=(un HO).set i (f - (m+pr) % 1000000000);rw[show((f - (m+pr) % 1000000000:Nat):Int)=(f:Int) - ((m:Int)+(pr:Int)) % 1000000000 by omega]at h;exact h
      have HB':Hid (Below g w (wr.setCell ⟨g,i,none⟩ (.int .u64 ((f:Int) - ((m:Int)+(pr:Int)) % 1000000000)))):=(un HB).setCell (Nat.le_refl _) _;have hbi:¬(f:Int)<((m:Int)+(pr:Int)) % 1000000000:=by omega
      clear HI HO HB
      go_wp2
      go_roundw
      case rel=>exact⟨(m+pr) / 1000000000+0,i+1,_,by go_num,by go_num,by omega,(un HI').miss,HI',HO',HB'⟩
      case measure=>simp[intOf];omega
    ·have hm0:0<m:=by omega
     have hl0:lv=0:=by rw[hlv,List.getD_eq_getElem?_getD,List.getElem?_eq_none (by have:=(un HN).2;omega)];rfl
     have HQ:Hid (m=m+T*L.getD i 0):=by rw[←hlv,hl0];exact rfl
     have hmz:((m:Int) == 0)=false:=by rw[beq_eq_false_iff_ne];omega
     clear hf hlv hbrk hl0
     by_cases hbor:f<m % 1000000000
     ·have HI':Hid (Cub.TakeInv T F0 L (F.set i (f+1000000000 - m % 1000000000)) (m / 1000000000+1) (i+1)) :=
      (un HI).step hiF (un HQ) (by omega) (by omega) (by rw[←un HFv];omega) (by omega) (un HLB)
      have HO':Hid (Own ((wr.setCell ⟨g,i,none⟩ (.int .u64 ((f:Int)+1000000000))).setCell ⟨g,i,none⟩ (.int .u64 ((f:Int)+1000000000 - (m:Int) % 1000000000))) g (F.set i (f+1000000000 - m % 1000000000))):=by
       have h:=((un HO).set i (f+1000000000)).set i (f+1000000000 - m % 1000000000);rw[List.set_set]at h;rw[show((f+1000000000:Nat):Int)=(f:Int)+1000000000 by omega,show((f+1000000000 - m % 1000000000:Nat):Int)=(f:Int)+1000000000 - (m:Int) % 1000000000 by omega]at h;exact h
      have HB':Hid (Below g w ((wr.setCell ⟨g,i,none⟩ (.int .u64 ((f:Int)+1000000000))).setCell ⟨g,i,none⟩ (.int .u64 ((f:Int)+1000000000 - (m:Int) % 1000000000)))):=((un HB).setCell (Nat.le_refl _) _).setCell (Nat.le_refl _) _;have hbi:(f:Int)<(m:Int) % 1000000000:=by omega
      clear HI HO HB
      go_wp2
      go_roundw
      case rel=>exact⟨m / 1000000000+1,i+1,_,by go_num,by go_num,by omega,(un HI').miss,HI',HO',HB'⟩
      case measure=>simp[intOf];omega
     ·have HI':Hid (Cub.TakeInv T F0 L (F.set i (f - m % 1000000000)) (m / 1000000000+0) (i+1)) :=
      (un HI).step hiF (un HQ) (by omega) (by omega) (by rw[←un HFv];omega) (fun _=>rfl) (un HLB)
      have HO':Hid (Own (wr.setCell ⟨g,i,none⟩ (.int .u64 ((f:Int) - (m:Int) % 1000000000))) g (F.set i (f - m % 1000000000))):=by
       have h:=(un HO).set i (f - m % 1000000000);rw[show((f - m % 1000000000:Nat):Int)=(f:Int) - (m:Int) % 1000000000 by omega]at h;exact h
      have HB':Hid (Below g w (wr.setCell ⟨g,i,none⟩ (.int .u64 ((f:Int) - (m:Int) % 1000000000)))):=(un HB).setCell (Nat.le_refl _) _;have hbi:¬(f:Int)<(m:Int) % 1000000000:=by omega
      clear HI HO HB
      go_wp2
      go_roundw
      case rel=>exact⟨m / 1000000000+0,i+1,_,by go_num,by go_num,by omega,(un HI').miss,HI',HO',HB'⟩
      case measure=>simp[intOf];omega
  ·have hie:i=n:=by omega
   subst hie
   have HV:Hid (Cub.lval 1000000000 F+T*Cub.lval 1000000000 L=Cub.lval 1000000000 F0+1000000000 ^ i*m):=by
    have h:=(un HI).val;rw[List.take_of_length_le (by have:=(un HN).2;omega)]at h;exact h
   go_wp2
   go_ret
   exact⟨m,F,rfl,un HO,un hFl,(un HI).lim,un HV,hm,un HB⟩
end Go.Proofs.YtliadckofhblnaaGreatDoor
namespace Go.Proofs.YtliadckofhblnaaGreatDoor
open Go.RowKit
theorem norm9_len_le {x y:List Nat} (hx:Cub.limbs 1000000000 x) (hy:Cub.normal 1000000000 y) (h:Cub.lval 1000000000 y≤Cub.lval 1000000000 x):y.length≤x.length :=
 Cub.len_le hy (Nat.lt_of_le_of_lt h (Cub.lval_lt hx))
end Go.Proofs.YtliadckofhblnaaGreatDoor
namespace Cub
def cmpN (m n:Nat):Int:=if m<n then -1 else if n<m then 1 else 0
end Cub
namespace Cub
theorem lval_split (B:Nat) (a:List Nat) (j:Nat) (h:j<a.length):lval B a=lval B (a.take j)+B ^ j*(a[j]+B*lval B (a.drop (j+1))):=by
  have e:=lval_append B (a.take j) (a.drop j);rw[List.take_append_drop,List.length_take,Nat.min_eq_left (by omega),List.drop_eq_getElem_cons h]at e;exact e
theorem cmp_at {B:Nat} {a b:List Nat} (ha:limbs B a) (hl:a.length=b.length) (j:Nat) (h:j<a.length) (hd:a.drop (j+1)=b.drop (j+1)) (hlt:a[j]<b[j]):lval B a<lval B b:=by
  rw[lval_split B a j h,lval_split B b j (by omega),hd]
  have h1:lval B (a.take j)<B ^ j:=by
    have:=lval_lt (B:=B) (l:=a.take j) (fun z hz=>ha z (List.mem_of_mem_take hz))
    rwa [List.length_take,Nat.min_eq_left (by omega)]at this
  have h2:B ^ j*(a[j]+B*lval B (b.drop (j+1))+1)≤B ^ j*(b[j]+B*lval B (b.drop (j+1))):=Nat.mul_le_mul_left _ (by omega);rw[Nat.mul_add (B ^ j) (a[j]+B*lval B (b.drop (j+1))) 1]at h2
  omega
theorem cmp_len {a b:List Nat} (ha:limbs 1000000000 a) (hb:normal 1000000000 b) (h:a.length<b.length):lval 1000000000 a<lval 1000000000 b:=by
  have h1:=lval_lt ha;have hne:b≠[]:=by intro e;rw[e]at h;simp at h
  have h2:=normal_ge hb hne;have h3:1000000000 ^ a.length≤1000000000 ^ (b.length - 1):=Nat.pow_le_pow_right (by decide) (by omega)
  omega
theorem cmpN_lt {m n:Nat} (h:m<n):cmpN m n=-1:=if_pos h
theorem cmpN_gt {m n:Nat} (h:n<m):cmpN m n=1:=by unfold cmpN;rw[if_neg (by omega),if_pos h]
theorem cmpN_eq (m:Nat):cmpN m m=0:=by unfold cmpN;rw[if_neg (by omega),if_neg (by omega)]
end Cub
namespace Go.Proofs.YtliadckofhblnaaGreatDoor
open Go.RowKit
theorem zGw (a:Int) (w:World):Calls Tryz.prog 284 #[.int .u64 a] w fun e w'=>e=.returned (.bool false)∧w'=w:=by
  go_enter Tryz.func284,Tryz.ntmps284
  go_wp2
  go_ret
  exact⟨rfl,rfl⟩
theorem cmp64_any (a b:Nat) (w:World) :
    Calls Tryz.prog 254 #[.int .u64 (a:Int),.int .u64 (b:Int)] w fun e w'=>e=.returned (I (Cub.cmpN a b))∧w'=w:=by
  rcases Nat.lt_trichotomy a b with h|h|h
  · rw[Cub.cmpN_lt h]
    have h1:(a:Int)<(b:Int):=by omega
    go_enter Tryz.func254,Tryz.ntmps254
    go_wp2_with (go_at_call 284;refine(zGw _ _).mono ?_;rintro e w' ⟨rfl,rfl⟩)
    go_ret
    exact⟨rfl,rfl⟩
  · subst h
    rw[Cub.cmpN_eq];go_enter Tryz.func254,Tryz.ntmps254
    go_wp2_with (go_at_call 284;refine(zGw _ _).mono ?_;rintro e w' ⟨rfl,rfl⟩)
    go_ret
    exact⟨rfl,rfl⟩
  · rw[Cub.cmpN_gt h]
    have h1:(b:Int)<(a:Int):=by omega
    go_enter Tryz.func254,Tryz.ntmps254
    go_wp2_with (go_at_call 284;refine(zGw _ _).mono ?_;rintro e w' ⟨rfl,rfl⟩)
    go_ret
    exact⟨rfl,rfl⟩
theorem isNaNi_any (a:Int) (w:World):Calls Tryz.prog 283 #[I a] w fun e w'=>e=.returned (.bool false)∧w'=w:=by
  go_enter Tryz.func283,Tryz.ntmps283
  go_wp2
  go_ret
  exact⟨rfl,rfl⟩
theorem cmpi_any (a b:Nat) (w:World) :
    Calls Tryz.prog 253 #[I (a:Int),I (b:Int)] w fun e w'=>e=.returned (I (Cub.cmpN a b))∧w'=w:=by
  rcases Nat.lt_trichotomy a b with h|h|h
  · rw[Cub.cmpN_lt h]
    have h1:(a:Int)<(b:Int):=by omega
    go_enter Tryz.func253,Tryz.ntmps253
    go_wp2_with (go_at_call 283;refine(isNaNi_any _ _).mono ?_;rintro e w' ⟨rfl,rfl⟩)
    go_ret
    exact⟨rfl,rfl⟩
  · subst h
    rw[Cub.cmpN_eq];go_enter Tryz.func253,Tryz.ntmps253
    go_wp2_with (go_at_call 283;refine(isNaNi_any _ _).mono ?_;rintro e w' ⟨rfl,rfl⟩)
    go_ret
    exact⟨rfl,rfl⟩
  · rw[Cub.cmpN_gt h]
    have h1:(b:Int)<(a:Int):=by omega
    go_enter Tryz.func253,Tryz.ntmps253
    go_wp2_with (go_at_call 283;refine(isNaNi_any _ _).mono ?_;rintro e w' ⟨rfl,rfl⟩)
    go_ret
    exact⟨rfl,rfl⟩
theorem cmp_any (x y:Value) (m n:Nat) (w:World) (hx:zAf w x m) (hy:zAf w y n) :
    Calls Tryz.prog 207 #[x,y] w fun e w'=>e=.returned (I (Cub.cmpN m n))∧Bw w w':=by
  obtain⟨ap,lp,cp,rfl,hlp,hrp,hnp,rfl⟩:=hx.form;obtain⟨aq,lq,cq,rfl,hlq,hrq,hnq,rfl⟩:=hy.form;have HP:Hid (Cub.normal 1000000000 lp∧Cells w ap lp):=⟨hnp,hrp.cells.2.2.2⟩;have HQ:Hid (Cub.normal 1000000000 lq∧Cells w aq lq):=⟨hnq,hrq.cells.2.2.2⟩;obtain⟨np,hnp'⟩:∃np,np=lp.length:=⟨_,rfl⟩;obtain⟨nq,hnq'⟩:∃nq,nq=lq.length:=⟨_,rfl⟩;rw[←hnp']at hlp ⊢;rw[←hnq']at hlq ⊢;have HNP:=zAb hnp';have HNQ:=zAb hnq';clear hx hy hrp hrq hnp hnq hnp' hnq'
  by_cases hne:np=nq
  · subst hne
    have C78:Hid (∀W,Calls Tryz.prog 253 #[I (np:Int),I (np:Int)] W fun e w'=>e=.returned (I 0)∧w'=W):=fun W=>by have h:=cmpi_any np np W;rw[Cub.cmpN_eq]at h;exact h
    go_enter Tryz.func207,Tryz.ntmps207
    go_wp2_with (go_at_call 253;refine(un C78 _).mono ?_;rintro e w' ⟨rfl,rfl⟩)
    go_loopw [6] (fun t wr=>∃j:Nat,j≤np∧t=I ((j:Int) - 1)∧Hid (lp.drop j=lq.drop j)∧wr.cell? ⟨w.heap.size,0,none⟩=some (.slice ap np cp)∧wr.cell? ⟨w.heap.size+1,0,none⟩=some (.slice aq np cq)∧Bw w wr) (fun t _=>(intOf t+1).toNat)
    case atStart=>exact⟨np,Nat.le_refl _,rfl,by rw[List.drop_of_length_le (by have:=un HNP;omega),List.drop_of_length_le (by have:=un HNQ;omega)];exact rfl,by simp[go_sem],by simp[go_sem],((Below.refl _ _).alloc (Nat.le_refl _) _).alloc (by simp) _⟩
    case round=>
      obtain⟨j,hj,rfl,HD,hb1,hb2,hbl⟩:=hrel
      by_cases hj0:j=0
      · subst hj0
        have HF:Hid (Cub.cmpN (Cub.lval 1000000000 lp) (Cub.lval 1000000000 lq)=0):=by
          have h:=un HD;rw[List.drop_zero,List.drop_zero]at h;rw[h,Cub.cmpN_eq];exact rfl
        go_wp2
        go_ret
        exact⟨by rw[un HF];rfl,hbl⟩
      · obtain⟨i,rfl⟩:∃i,j=i+1:=⟨j - 1,by omega⟩
        have hip:i<lp.length:=by have:=un HNP;omega
        have hiq:i<lq.length:=by have:=un HNQ;omega
        obtain⟨b1,o1,rfl,hc1⟩:=(un HP).2 wr hbl i hip;obtain⟨b2,o2,rfl,hc2⟩:=(un HQ).2 wr hbl i hiq;obtain⟨xv,hxv⟩:∃xv,xv=lp[i]:=⟨_,rfl⟩;obtain⟨yv,hyv⟩:∃yv,yv=lq[i]:=⟨_,rfl⟩;rw[←hxv]at hc1;rw[←hyv]at hc2;obtain⟨c,hc⟩:∃c,c=Cub.cmpN xv yv:=⟨_,rfl⟩;have C79:Hid (∀W,Calls Tryz.prog 254 #[.int .u64 (xv:Int),.int .u64 (yv:Int)] W fun e w'=>e=.returned (I c)∧w'=W):=fun W=>by have h:=cmp64_any xv yv W;rw[←hc]at h;exact h
        have hin':(i:Int)<(np:Int):=by omega
        rw[show(((i+1:Nat):Int) - 1)=(i:Int)from by omega]
        by_cases hxy:xv=yv
        · have hc0:c=0:=by rw[hc,hxy,Cub.cmpN_eq]
          subst hc0
          have HD':Hid (lp.drop i=lq.drop i):=by
            rw[List.drop_eq_getElem_cons hip,List.drop_eq_getElem_cons hiq,un HD,←hxv,←hyv,hxy];exact rfl
          clear hc hxy hxv hyv hj0
          go_wp2
          go_quiet ((go_at_call 254;exact Calls.quiet_of_same (un C79 _)))
          go_wp2
          go_roundw
          case rel=>exact⟨i,by omega,rfl,HD',hb1,hb2,below_drewN hbl _⟩
          case measure=>simp[intOf]
        · have hcz:(c != 0)=true:=by
            rw[hc,bne_iff_ne];rcases Nat.lt_or_ge xv yv with h|h
            · rw[Cub.cmpN_lt h];omega
            · rw[Cub.cmpN_gt (show yv<xv by omega)];omega
          have HF:Hid (Cub.cmpN (Cub.lval 1000000000 lp) (Cub.lval 1000000000 lq)=c):=by
            have hl:lp.length=lq.length:=by rw[←un HNP,←un HNQ]
            rw[hc];rcases Nat.lt_or_ge xv yv with h|h
            · rw[Cub.cmpN_lt h,Cub.cmpN_lt (Cub.cmp_at (un HP).1.1 hl i hip (un HD) (by rw[←hxv,←hyv];exact h))];exact rfl
            · have h':yv<xv:=by omega
              rw[Cub.cmpN_gt h',Cub.cmpN_gt (Cub.cmp_at (un HQ).1.1 hl.symm i hiq (un HD).symm (by rw[←hxv,←hyv];exact h'))];exact rfl
          clear hc hxy hxv hyv hj0
          go_wp2
          go_quiet ((go_at_call 254;exact Calls.quiet_of_same (un C79 _)))
          go_wp2
          go_ret
          exact⟨by rw[un HF];rfl,below_drewN hbl _⟩
  · obtain⟨c,hc⟩:∃c,c=Cub.cmpN np nq:=⟨_,rfl⟩
    have hfin:Cub.cmpN (Cub.lval 1000000000 lp) (Cub.lval 1000000000 lq)=c:=by
      rw[hc];rcases Nat.lt_or_ge np nq with h|h
      · rw[Cub.cmpN_lt h,Cub.cmpN_lt (Cub.cmp_len (un HP).1.1 (un HQ).1 (by have:=un HNP;have:=un HNQ;omega))]
      · rw[Cub.cmpN_gt (show nq<np by omega),Cub.cmpN_gt (Cub.cmp_len (un HQ).1.1 (un HP).1 (by have:=un HNP;have:=un HNQ;omega))]
    have hc0:(c != 0)=true:=by
      rw[hc,bne_iff_ne];rcases Nat.lt_or_ge np nq with h|h
      · rw[Cub.cmpN_lt h];omega
      · rw[Cub.cmpN_gt (show nq<np by omega)];omega
    have C78:Hid (∀W,Calls Tryz.prog 253 #[I (np:Int),I (nq:Int)] W fun e w'=>e=.returned (I c)∧w'=W):=fun W=>by have h:=cmpi_any np nq W;rw[←hc]at h;exact h
    rw[hfin];clear hfin hc;go_enter Tryz.func207,Tryz.ntmps207
    go_wp2_with (go_at_call 253;refine(un C78 _).mono ?_;rintro e w' ⟨rfl,rfl⟩)
    go_ret
    exact⟨rfl,((Below.refl _ _).alloc (Nat.le_refl _) _).alloc (by simp) _⟩
end Go.Proofs.YtliadckofhblnaaGreatDoor

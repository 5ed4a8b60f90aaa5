/- Frac.Add (66), rat.Add (30). -/
import Derived.Test.YtliadckofhblnaaGreatDoorLimb3
import Derived.Test.YtliadckofhblnaaGreatDoorNtSum
import Derived.Test.YtliadckofhblnaaGreatDoorPower
import Derived.Test.YtliadckofhblnaaGreatDoorCopy
import Derived.Test.YtliadckofhblnaaGreatDoorMulMath
import Derived.Test.YtliadckofhblnaaGreatDoorCmpMath
set_option maxHeartbeats 12000000
set_option maxRecDepth 100000
namespace Go.Proofs.YtliadckofhblnaaGreatDoor
open Go.RowKit
theorem addSigned_any (b c:Bool) (x y:Value) (m n k:Nat) (w:World) (hx:zAf w x m) (hy:zAf w y n) (hk:k≤1000000) (hm:m<1000000000 ^ k) (hn:n<1000000000 ^ k) :
    Calls Tryz.prog 150 #[.bool b,x,.bool c,y] w fun e w'=>∃a l d,e=.returned (.tuple #[.bool (Cub.addSg b m c n).1,.agg #[.slice a l d]])∧zAf w' (.agg #[.slice a l d]) (Cub.addSg b m c n).2∧Bw w w':=by
  have HX:=zAb hx;have HY:=zAb hy;obtain⟨ap,np,cp,rfl⟩:=hx.shape;obtain⟨aq,nq,cq,rfl⟩:=hy.shape;have HADD:=zAb (fun W (h1:zAf W (.agg #[.slice ap np cp]) m) (h2:zAf W (.agg #[.slice aq nq cq]) n)=>bigadd_any _ _ m n k W h1 h2 hk hm hn);have HSUB1:=zAb (fun W (h1:zAf W (.agg #[.slice ap np cp]) m) (h2:zAf W (.agg #[.slice aq nq cq]) n) (h:n≤m)=>sub_any _ _ m n k W h1 h2 hk hm h);have HSUB2:=zAb (fun W (h1:zAf W (.agg #[.slice ap np cp]) m) (h2:zAf W (.agg #[.slice aq nq cq]) n) (h:m≤n)=>sub_any _ _ n m k W h2 h1 hk hn h);have HCMP:=zAb (fun W (h1:zAf W (.agg #[.slice ap np cp]) m) (h2:zAf W (.agg #[.slice aq nq cq]) n)=>cmp_any _ _ m n W h1 h2);have HS0:=zAb (A3St.first w (.slice ap np cp) (.slice aq nq cq) (.slice none 0 0));have HX0:=zAb ((un HX).later (un HS0).below);have HY0:=zAb ((un HY).later (un HS0).below);clear hx hy hk hm hn HX HY
  by_cases hbc:b=c
  · have HV:Hid (Cub.addSg b m c n=(b,m+n)):=if_pos hbc
    have e:(b == c)=true:=by rw[hbc];simp
    rw[un HV];clear HV;subst hbc;go_enter Tryz.func150,Tryz.ntmps150
    go_wp2_with (go_at_call 215;go_must(refine(un HADD _ (un HX0) (un HY0)).mono ?_;rintro e w1 ⟨v1,rfl,hv1,hb1⟩;obtain⟨a1,l1,c1,rfl⟩:=hv1.shape;have HS1:=zAb ((un HS0).later hb1);have HV1:=zAb hv1;clear hv1 hb1;have b3:=(un HS1).b3.c;have f3:=(un HS1).b3.f))
    refine bodyPost_ret (v:=.tuple #[.bool b,.agg #[.slice a1 l1 c1]]) (by simp[results,Tryz.results150,go_sem,b3]) rfl ⟨_,_,_,rfl,?_,?_⟩
    · exact(un HV1).box _ b3 (zAp _ _ _)
    · exact((un HS1).set3 _).below
  · have hbn:(b == c)=false:=by simpa using hbc
    by_cases hlt:m<n
    · have HV:Hid (Cub.addSg b m c n=(c,n - m)):=by show _=_;unfold Cub.addSg;rw[if_neg hbc,if_pos hlt]
      rw[un HV];have hcm:Cub.cmpN m n=-1:=if_pos hlt;rw[hcm]at HCMP;have HLE:Hid (m≤n):=by show m≤n;omega
      clear HV hlt hbc hcm;go_enter Tryz.func150,Tryz.ntmps150
      go_wp2_with (first
        | (go_at_call 207;go_must(refine(un HCMP _ (un HX0) (un HY0)).mono ?_;rintro e w0 ⟨rfl,hb0⟩;have HS':=zAb ((un HS0).later hb0);have HX':=zAb ((un HX0).later hb0);have HY':=zAb ((un HY0).later hb0);clear hb0;have b1:=(un HS').b1.c;have b2:=(un HS').b2.c))
        | (go_at_call 216;go_must(refine(un HSUB2 w0 (un HX') (un HY') (un HLE)).mono ?_;rintro e w1 ⟨v1,rfl,hv1,hb1⟩;obtain⟨a1,l1,c1,rfl⟩:=hv1.shape;have HS1:=zAb ((un HS').later hb1);have HV1:=zAb hv1;clear hv1 hb1;have b3:=(un HS1).b3.c;have f3:=(un HS1).b3.f)))
      refine bodyPost_ret (v:=.tuple #[.bool c,.agg #[.slice a1 l1 c1]]) (by simp[results,Tryz.results150,go_sem,b3]) rfl ⟨_,_,_,rfl,?_,?_⟩
      · exact(un HV1).box _ b3 (zAp _ _ _)
      · exact((un HS1).set3 _).below
    · have HV:Hid (Cub.addSg b m c n=(b,m - n)):=by show _=_;unfold Cub.addSg;rw[if_neg hbc,if_neg hlt]
      rw[un HV];have HLE:Hid (n≤m):=by show n≤m;omega
      obtain⟨z,hz⟩:∃z,z=Cub.cmpN m n:=⟨_,rfl⟩;have hz0:¬z<0:=by rw[hz];unfold Cub.cmpN;rw[if_neg hlt];split<;>omega
      rw[←hz]at HCMP;clear HV hlt hbc hz;go_enter Tryz.func150,Tryz.ntmps150
      go_wp2_with (first
        | (go_at_call 207;go_must(refine(un HCMP _ (un HX0) (un HY0)).mono ?_;rintro e w0 ⟨rfl,hb0⟩;have HS':=zAb ((un HS0).later hb0);have HX':=zAb ((un HX0).later hb0);have HY':=zAb ((un HY0).later hb0);clear hb0;have b1:=(un HS').b1.c;have b2:=(un HS').b2.c))
        | (go_at_call 216;go_must(refine(un HSUB1 w0 (un HX') (un HY') (un HLE)).mono ?_;rintro e w1 ⟨v1,rfl,hv1,hb1⟩;obtain⟨a1,l1,c1,rfl⟩:=hv1.shape;have HS1:=zAb ((un HS').later hb1);have HV1:=zAb hv1;clear hv1 hb1;have b3:=(un HS1).b3.c;have f3:=(un HS1).b3.f)))
      refine bodyPost_ret (v:=.tuple #[.bool b,.agg #[.slice a1 l1 c1]]) (by simp[results,Tryz.results150,go_sem,b3]) rfl ⟨_,_,_,rfl,?_,?_⟩
      · exact(un HV1).box _ b3 (zAp _ _ _)
      · exact((un HS1).set3 _).below
theorem fadd_any (x y:Value) (b c:Bool) (n d m e k:Nat) (w:World) (hx:zCd w x b n d) (hy:zCd w y c m e) (h1:Cub.Low b n d) (h2:Cub.Low c m e) (hk:k+k+k≤100000)
    (hn:n<1000000000 ^ k) (hd:d<1000000000 ^ k) (hm:m<1000000000 ^ k) (he:e<1000000000 ^ k) (hD:DivAns (k+k+k)) (hG:GcdAns (k+k+k)) :
    Calls Tryz.prog 66 #[x,y] w fun r w'=>∃v b' n' d',r=.returned v∧zCd w' v b' n' d'∧Cub.Low b' n' d'∧Cub.valQ b' n' d'=Cub.valQ b n d+Cub.valQ c m e∧n'<1000000000 ^ (k+k+k)∧d'<1000000000 ^ (k+k+k)∧Bw w w':=by
  obtain⟨a1,l1,c1,a2,l2,c2,rfl,hx1,hx2⟩:=hx.form;obtain⟨a3,l3,c3,a4,l4,c4,rfl,hy1,hy2⟩:=hy.form;obtain⟨V,hV⟩:∃V,V=(((w.alloc (.cells #[.bool b,.slice a1 l1 c1,.slice a2 l2 c2] 82)).alloc (.cells #[.bool c,.slice a3 l3 c3,.slice a4 l4 c4] 82)).alloc (.cells #[.bool false,.slice none 0 0,.slice none 0 0] 82)):=⟨_,rfl⟩;have HS:Hid (AS w V (.bool b) (.slice a1 l1 c1) (.slice a2 l2 c2) (.bool c) (.slice a3 l3 c3) (.slice a4 l4 c4) []):=by rw[hV];exact AS.first _ _ _ _ _ _ _
  have HX1:=zAb (hx1.later (un HS).below);have HX2:=zAb (hx2.later (un HS).below);have HY1:=zAb (hy1.later (un HS).below);have HY2:=zAb (hy2.later (un HS).below);have HV:=zAb hV;obtain⟨s,hs⟩:∃s,s=Nat.gcd d e:=⟨_,rfl⟩;obtain⟨f,hf⟩:∃f,f=d / s:=⟨_,rfl⟩;obtain⟨g,hg⟩:∃g,g=e / s:=⟨_,rfl⟩;obtain⟨bm,hbm⟩:∃bm,bm=Cub.addSg b (n*g) c (m*f):=⟨_,rfl⟩;have HADD:=zAb (Cub.add_low h1 h2 hs hf hg (show(bm.1,bm.2)=_ from hbm));have hd0:=h1.pos;have he0:=h2.pos;have hs0:0<s:=by rw[hs];exact Nat.gcd_pos_of_pos_left _ hd0
  have hsd:s≤d:=by rw[hs];exact Nat.gcd_le_left _ hd0
  have hfd:f≤d:=by rw[hf];exact Nat.div_le_self _ _
  have hge:g≤e:=by rw[hg];exact Nat.div_le_self _ _
  have hP:(1000000000:Nat) ^ k≤1000000000 ^ (k+k+k):=Nat.pow_le_pow_right (by decide) (by omega);have hP2:(1000000000:Nat) ^ (k+k)≤1000000000 ^ (k+k+k):=Nat.pow_le_pow_right (by decide) (by omega);have hng:n*g<1000000000 ^ (k+k):=by rw[Nat.pow_add];exact Nat.mul_lt_mul'' hn (by omega)
  have hmf:m*f<1000000000 ^ (k+k):=by rw[Nat.pow_add];exact Nat.mul_lt_mul'' hm (by omega)
  have hk1 : 1 ≤ k := by rcases Nat.eq_zero_or_pos k with h0|h0;· subst h0;simp at hd;omega
                         · exact h0
  have hbm2 : bm.2 < 1000000000 ^ (k + k + k):=by
    have h3 : bm.2 ≤ n * g + m * f := by rw[hbm];unfold Cub.addSg;split;· exact Nat.le_refl _
                                         · split<;>(simp only[];omega)
    have h4:(1000000000:Nat) ^ (k+k)*1000000000 ^ 1≤1000000000 ^ (k+k+k):=by rw[←Nat.pow_add];exact Nat.pow_le_pow_right (by decide) (by omega)
    omega
  have HGC:Hid (∀W,Below V.heap.size V W→Calls Tryz.prog 148 #[.agg #[.slice a2 l2 c2],.agg #[.slice a4 l4 c4]] W fun e w'=>∃a l c,e=.returned (.agg #[.slice a l c])∧zAf w' (.agg #[.slice a l c]) s∧Bw W w'):=fun W hb=>by
    rw[hs];exact hG W _ _ d e ((un HX2).later hb) ((un HY2).later hb) (by omega) (by omega)
  have HD:=zAb hD;have HDD:Hid (d<1000000000 ^ (k+k+k)∧e<1000000000 ^ (k+k+k)∧0<s):=⟨by omega,by omega,hs0⟩;have HMA:Hid (∀W v,zAf W (.agg #[.slice a1 l1 c1]) n→zAf W v g→Calls Tryz.prog 151 #[.agg #[.slice a1 l1 c1],v] W fun r w'=>∃v',r=.returned v'∧zAf w' v' (n*g)∧Bw W w'):=fun W v i1 i2=>mul_any _ _ n g k W i1 i2 (by omega) hn (by omega)
  have HMB:Hid (∀W v,zAf W (.agg #[.slice a3 l3 c3]) m→zAf W v f→Calls Tryz.prog 151 #[.agg #[.slice a3 l3 c3],v] W fun r w'=>∃v',r=.returned v'∧zAf w' v' (m*f)∧Bw W w'):=fun W v i1 i2=>mul_any _ _ m f k W i1 i2 (by omega) hm (by omega)
  have HSG:Hid (∀W x y,zAf W x (n*g)→zAf W y (m*f)→Calls Tryz.prog 150 #[.bool b,x,.bool c,y] W fun e w'=>∃a l d,e=.returned (.tuple #[.bool bm.1,.agg #[.slice a l d]])∧zAf w' (.agg #[.slice a l d]) bm.2∧Bw W w'):=fun W x y i1 i2=>by
    rw[hbm];exact addSigned_any b c x y (n*g) (m*f) (k+k+k) W i1 i2 (by omega) (by omega) (by omega)
  have HLW:Hid (∀W x y,zAf W x bm.2→zAf W y s→Calls Tryz.prog 152 #[x,y] W fun e w'=>∃a1 l1 c1 a2 l2 c2,e=.returned (.tuple #[.agg #[.slice a1 l1 c1],.agg #[.slice a2 l2 c2]])∧zAf w' (.agg #[.slice a1 l1 c1]) (bm.2 / Nat.gcd bm.2 s)∧zAf w' (.agg #[.slice a2 l2 c2]) (s / Nat.gcd bm.2 s)∧Bw W w'):=fun W x y i1 i2=>
    zEy x y bm.2 s (k+k+k) W i1 i2 hbm2 (by omega) hs0 hD hG
  have hsl:s / Nat.gcd bm.2 s≤s:=Nat.div_le_self _ _;have hml:bm.2 / Nat.gcd bm.2 s≤bm.2:=Nat.div_le_self _ _;generalize hM:bm.2 / Nat.gcd bm.2 s=M at *
  generalize hT:s / Nat.gcd bm.2 s=T at *
  have hTf:T*f<1000000000 ^ (k+k):=by rw[Nat.pow_add];exact Nat.mul_lt_mul'' (by omega) (by omega)
  have hTfg:T*f*g<1000000000 ^ (k+k+k):=by rw[Nat.pow_add];exact Nat.mul_lt_mul'' hTf (by omega)
  have HMC:Hid (∀W x y,zAf W x T→zAf W y f→Calls Tryz.prog 151 #[x,y] W fun r w'=>∃v',r=.returned v'∧zAf w' v' (T*f)∧Bw W w'):=fun W x y i1 i2=>mul_any _ _ T f k W i1 i2 (by omega) (by omega) (by omega)
  have HMD:Hid (∀W x y,zAf W x (T*f)→zAf W y g→Calls Tryz.prog 151 #[x,y] W fun r w'=>∃v',r=.returned v'∧zAf w' v' (T*f*g)∧Bw W w'):=fun W x y i1 i2=>mul_any _ _ (T*f) g (k+k) W i1 i2 (by omega) hTf (Nat.lt_of_lt_of_le (by omega:g<1000000000 ^ k) (Nat.pow_le_pow_right (by decide) (by omega)))
  have HBD:Hid (M<1000000000 ^ (k+k+k)∧T*f*g<1000000000 ^ (k+k+k)∧0<1000000000 ^ (k+k+k)∧1<1000000000 ^ (k+k+k)):=by
    refine⟨by omega,hTfg,by omega,?_⟩;have:(1000000000:Nat) ^ 1≤1000000000 ^ (k+k+k):=Nat.pow_le_pow_right (by decide) (by omega)
    omega
  have HF:Hid (f=d / s∧g=e / s):=⟨hf,hg⟩
  have HDF:Hid (∀W x y,zAf W x d→zAf W y s→Calls Tryz.prog 149 #[x,y] W fun e w'=>∃a1 n1 c1 a2 n2 c2,e=.returned (.tuple #[.agg #[.slice a1 n1 c1],.agg #[.slice a2 n2 c2]])∧zAf w' (.agg #[.slice a1 n1 c1]) f∧Bw W w'):=fun W x y i1 i2=>by
    refine(hD W x y d s i1 i2 (by omega) hs0).mono ?_;rintro e w' ⟨p1,p2,p3,p4,p5,p6,he,i,_,hb⟩;rw[hf];exact⟨p1,p2,p3,p4,p5,p6,he,i,hb⟩
  have HDG:Hid (∀W x y,zAf W x e→zAf W y s→Calls Tryz.prog 149 #[x,y] W fun e w'=>∃a1 n1 c1 a2 n2 c2,e=.returned (.tuple #[.agg #[.slice a1 n1 c1],.agg #[.slice a2 n2 c2]])∧zAf w' (.agg #[.slice a1 n1 c1]) g∧Bw W w'):=fun W x y i1 i2=>by
    refine(hD W x y e s i1 i2 (by omega) hs0).mono ?_;rintro e w' ⟨p1,p2,p3,p4,p5,p6,he,i,_,hb⟩;rw[hg];exact⟨p1,p2,p3,p4,p5,p6,he,i,hb⟩
  clear hx hy hx1 hx2 hy1 hy2 h1 h2 hk hn hd hm he hs hf hg hbm hD hG hd0 he0 hs0 hsd hfd hge hP hP2 hng hmf hk1 hbm2 hsl hml hM hT hTf hTfg HD HDD HF;obtain⟨bb,mm⟩:=bm
  dsimp only at *
  go_enter Tryz.func66,Tryz.ntmps66
  go_upto_region 1 with fail
  rw[←un HV];clear hV HV;have t2:=(un HS).x.c2;have t4:=(un HS).y.c2
  go_upto_region 2 with (go_at_call 148;go_must(refine(un HGC V (Below.refl _ _)).mono ?_;rintro e w1 ⟨ag,lg,cg,rfl,hv1,hb1⟩;have HS1:=zAb ((un HS).later hb1);have HG1:=zAb hv1;have HX11:=zAb ((un HX1).later hb1);have HX12:=zAb ((un HX2).later hb1);have HY11:=zAb ((un HY1).later hb1);have HY12:=zAb ((un HY2).later hb1);clear hv1 hb1 t2 t4))
  clear HS HX1 HX2 HY1 HY2 HGC;obtain⟨V1,hV1⟩:∃V1,V1=w1.alloc (.cells #[.slice ag lg cg] 80):=⟨_,rfl⟩;have hb:Below w1.heap.size w1 V1:=by rw[hV1];exact bA
  have HS:Hid (AS w V1 (.bool b) (.slice a1 l1 c1) (.slice a2 l2 c2) (.bool c) (.slice a3 l3 c3) (.slice a4 l4 c4) [(w1.heap.size,.slice ag lg cg)]):=by rw[hV1];exact(un HS1).push _
  have HG:=zAb ((un HG1).later hb);have HX1:=zAb ((un HX11).later hb);have HX2:=zAb ((un HX12).later hb);have HY1:=zAb ((un HY11).later hb);have HY2:=zAb ((un HY12).later hb);rw[←hV1];clear hV1 hb HS1 HG1 HX11 HX12 HY11 HY12;generalize w1.heap.size=g5 at *
  have t2:=(un HS).x.c2;have t4:=(un HS).y.c2;have q5:=((un HS).bx (g5,.slice ag lg cg) (by simp)).c
  dsimp only at q5
  go_upto_region 3 with (go_at_call 149;go_must(refine(un HDF V1 _ _ (un HX2) (un HG)).mono ?_;rintro e w2 ⟨af,lf,cf,af2,lf2,cf2,rfl,hv2,hb2⟩;have HS2:=zAb ((un HS).later hb2);have HF2:=zAb hv2;have HG2:=zAb ((un HG).later hb2);have HX21:=zAb ((un HX1).later hb2);have HY21:=zAb ((un HY1).later hb2);have HY22:=zAb ((un HY2).later hb2);clear hv2 hb2 t2 t4 q5))
  clear HS HG HX1 HX2 HY1 HY2;obtain⟨V2,hV2⟩:∃V2,V2=(w2.alloc (.cells #[.slice af lf cf] 80)).alloc (.cells #[.slice af2 lf2 cf2] 80):=⟨_,rfl⟩;have hb:Below w2.heap.size w2 V2:=by rw[hV2];exact bA.alloc (by simp) _
  have h56:g5<w2.heap.size:=((un HS2).bx (g5,.slice ag lg cg) (by simp)).lt;have HS:Hid (AS w V2 (.bool b) (.slice a1 l1 c1) (.slice a2 l2 c2) (.bool c) (.slice a3 l3 c3) (.slice a4 l4 c4) [(w2.heap.size,.slice af lf cf),(g5,.slice ag lg cg)]):=by rw[hV2];exact(((un HS2).push _).push _).sub (by intro p hp;simp at hp ⊢;grind)
  have HG:=zAb ((un HG2).later hb);have HF:=zAb ((un HF2).later hb);have HX1:=zAb ((un HX21).later hb);have HY1:=zAb ((un HY21).later hb);have HY2:=zAb ((un HY22).later hb);rw[←hV2];clear hV2 hb HS2 HG2 HF2 HX21 HY21 HY22;generalize w2.heap.size=g6 at *
  have t4:=(un HS).y.c2;have q5:=((un HS).bx (g5,.slice ag lg cg) (by simp)).c
  dsimp only at q5
  go_upto_region 4 with (go_at_call 149;go_must(refine(un HDG V2 _ _ (un HY2) (un HG)).mono ?_;rintro e w3 ⟨ah,lh,ch,ah2,lh2,ch2,rfl,hv3,hb3⟩;have HS3:=zAb ((un HS).later hb3);have HH3:=zAb hv3;have HG3:=zAb ((un HG).later hb3);have HF3:=zAb ((un HF).later hb3);have HX31:=zAb ((un HX1).later hb3);have HY31:=zAb ((un HY1).later hb3);clear hv3 hb3 t4 q5))
  clear HS HG HF HX1 HY1 HY2 HDF HDG;obtain⟨V3,hV3⟩:∃V3,V3=(w3.alloc (.cells #[.slice ah lh ch] 80)).alloc (.cells #[.slice ah2 lh2 ch2] 80):=⟨_,rfl⟩;have hb:Below w3.heap.size w3 V3:=by rw[hV3];exact bA.alloc (by simp) _
  have h68:g6<w3.heap.size:=((un HS3).bx (g6,.slice af lf cf) (by simp)).lt;have HS:Hid (AS w V3 (.bool b) (.slice a1 l1 c1) (.slice a2 l2 c2) (.bool c) (.slice a3 l3 c3) (.slice a4 l4 c4) [(w3.heap.size,.slice ah lh ch),(g6,.slice af lf cf),(g5,.slice ag lg cg)]):=by rw[hV3];exact(((un HS3).push _).push _).sub (by intro p hp;simp at hp ⊢;grind)
  have HG:=zAb ((un HG3).later hb);have HF:=zAb ((un HF3).later hb);have HH:=zAb ((un HH3).later hb);have HX1:=zAb ((un HX31).later hb);have HY1:=zAb ((un HY31).later hb);rw[←hV3];clear hV3 hb HS3 HG3 HF3 HH3 HX31 HY31;generalize w3.heap.size=g8 at *
  have t0:=(un HS).x.c0;have t1:=(un HS).x.c1;have t3:=(un HS).y.c0;have t4:=(un HS).y.c1;have q6:=((un HS).bx (g6,.slice af lf cf) (by simp)).c;have q8:=((un HS).bx (g8,.slice ah lh ch) (by simp)).c
  dsimp only at q6 q8
  have HFX:Hid (∀U,Below V3.heap.size V3 U→AS w U (.bool b) (.slice a1 l1 c1) (.slice a2 l2 c2) (.bool c) (.slice a3 l3 c3) (.slice a4 l4 c4) [(g8,.slice ah lh ch),(g6,.slice af lf cf),(g5,.slice ag lg cg)]):=fun U hb=>(un HS).later hb
  have HC:Hid (∀U,Below V3.heap.size V3 U→(U.cell? ⟨w.heap.size,0,none⟩=some (.bool b)∧U.cell? ⟨w.heap.size,1,none⟩=some (.slice a1 l1 c1)∧U.cell? ⟨w.heap.size+1,0,none⟩=some (.bool c)∧U.cell? ⟨w.heap.size+1,1,none⟩=some (.slice a3 l3 c3)∧U.cell? ⟨g6,0,none⟩=some (.slice af lf cf)∧U.cell? ⟨g8,0,none⟩=some (.slice ah lh ch))∧w.heap.size<U.heap.size∧w.heap.size+1<U.heap.size∧g6<U.heap.size∧g8<U.heap.size):=fun U hb=>by
    have s:=un HFX U hb;exact⟨⟨s.x.c0,s.x.c1,s.y.c0,s.y.c1,(s.bx (g6,.slice af lf cf) (by simp)).c,(s.bx (g8,.slice ah lh ch) (by simp)).c⟩,s.x.lt,s.y.lt,(s.bx (g6,.slice af lf cf) (by simp)).lt,(s.bx (g8,.slice ah lh ch) (by simp)).lt⟩
  have HMA':Hid (∀U,Below V3.heap.size V3 U→Calls Tryz.prog 151 #[.agg #[.slice a1 l1 c1],.agg #[.slice ah lh ch]] U fun r w'=>∃v',r=.returned v'∧zAf w' v' (n*g)∧Bw U w'):=fun U hb=>un HMA U _ ((un HX1).later hb) ((un HH).later hb)
  have HMB':Hid (∀U,Below V3.heap.size V3 U→Calls Tryz.prog 151 #[.agg #[.slice a3 l3 c3],.agg #[.slice af lf cf]] U fun r w'=>∃v',r=.returned v'∧zAf w' v' (m*f)∧Bw U w'):=fun U hb=>un HMB U _ ((un HY1).later hb) ((un HF).later hb)
  have HSG':Hid (∀U0 U x y,zAf U0 x (n*g)→zAf U0 y (m*f)→Below U0.heap.size U0 U→Calls Tryz.prog 150 #[.bool b,x,.bool c,y] U fun e w'=>∃a l d,e=.returned (.tuple #[.bool bb,.agg #[.slice a l d]])∧zAf w' (.agg #[.slice a l d]) mm∧Bw U w'):=fun U0 U x y i1 i2 hb=>un HSG U x y (i1.later hb) (i2.later hb)
  have zv:=(un HC V3 (Below.refl _ _)).2;clear HMA HMB HSG
  go_region_held3 (fun w'=>w'.cell? ⟨w.heap.size,0,none⟩=some (.bool b)∧w'.cell? ⟨w.heap.size,1,none⟩=some (.slice a1 l1 c1)∧w'.cell? ⟨w.heap.size+1,0,none⟩=some (.bool c)∧w'.cell? ⟨w.heap.size+1,1,none⟩=some (.slice a3 l3 c3)∧w'.cell? ⟨g6,0,none⟩=some (.slice af lf cf)∧w'.cell? ⟨g8,0,none⟩=some (.slice ah lh ch)) (first|assumption|(refine⟨?_,?_,?_,?_,?_,?_⟩<;>first|assumption|(simp[go_sem, *];done)|(rw[World.cell?_setCell_other _ _ _ _ (by simp;omega)];assumption))|(simp[go_sem, *];done)) ((first
    | (go_at_call_of 151 (Value.agg #[Value.slice a1 l1 c1]);go_must(refine(un HMA' _ (by first|exact(Below.refl _ _).drew|exact((Below.refl _ _).drew).alloc (by simp) _)).mono ?_;rintro e wa ⟨va,rfl,hva,hba⟩;obtain⟨aa,la,ca,rfl⟩:=hva.shape;have HVA:=zAb hva;have HCA:Hid (Bw V3 wa):=(by first|exact((Below.refl V3.heap.size V3).drew).trans hba|exact(((Below.refl V3.heap.size V3).drew).alloc (by simp) _).trans (hba.mono (by simp)));(first|(have HN:Hid (Box wa V3.heap.size (.slice none 0 0)):=(Box.new V3.drew (.slice none 0 0)).later hba;have nc:=(un HN).c;have nf:=(un HN).f)|skip);clear hva hba t0 t1 t3 t4 q6 q8;obtain⟨⟨t0,t1,t3,t4,q6,q8⟩,za⟩:=un HC wa (un HCA)))
    | (go_at_call_of 151 (Value.agg #[Value.slice a3 l3 c3]);go_must(refine(un HMB' _ (by first|exact un HCA|exact(un HCA).alloc (un HCA).size _)).mono ?_;rintro e wb ⟨vb,rfl,hvb,hbb⟩;obtain⟨ab,lb,cb,rfl⟩:=hvb.shape;have HVB:=zAb hvb;have HBB:Hid (Bw wa wb):=(by first|exact hbb|exact bA.trans (hbb.mono (by simp)));have HVA':=zAb ((un HVA).later (un HBB));have HCB:=zAb ((un HCA).trans ((un HBB).mono (un HCA).size));(first|(have HN2:=zAb ((un HN).later hbb);clear HN;have HN:=HN2;clear HN2;clear nc nf;have nc:=(un HN).c;have nf:=(un HN).f)|(have HN:=zAb ((Box.new _ _).later hbb);have nc:=(un HN).c;have nf:=(un HN).f)|skip);clear hvb hbb t0 t1 t3 t4 q6 q8;obtain⟨⟨t0,t1,t3,t4,q6,q8⟩,zb⟩:=un HC wb (un HCB)))
    | (go_at_call 150;go_must(refine(un HSG' wb _ _ _ (un HVA') (un HVB) (by first|exact Below.refl _ _|exact bA)).mono ?_;rintro e wc ⟨am,lm,cm,rfl,hvc,hbc⟩;have HVM:=zAb hvc;have HBC:Hid (Bw wb wc):=(by first|exact hbc|exact bA.trans (hbc.mono (by simp)));have HCC:=zAb ((un HCB).trans ((un HBC).mono (un HCB).size));(first|(have HN2:=zAb ((un HN).later hbc);clear HN;have HN:=HN2;clear HN2;clear nc nf;have nc:=(un HN).c;have nf:=(un HN).f)|(have HN:=zAb ((Box.new _ _).later hbc);have nc:=(un HN).c;have nf:=(un HN).f)|skip);clear hvc hbc t0 t1 t3 t4 q6 q8;obtain⟨⟨t0,t1,t3,t4,q6,q8⟩,zc⟩:=un HC wc (un HCC)))))
  all_goals
    first
    | (obtain⟨V4,hV4⟩:∃V4,V4=wc.alloc (.cells #[.slice am lm cm] 80):=⟨_,rfl⟩
       rw[←hV4];have hlt:g8<wc.heap.size∧g6<wc.heap.size∧g5<wc.heap.size:=by omega
       have hb:Below wc.heap.size wc V4:=by rw[hV4];exact bA
       have HS4:Hid (AS w V4 (.bool b) (.slice a1 l1 c1) (.slice a2 l2 c2) (.bool c) (.slice a3 l3 c3) (.slice a4 l4 c4) [(wc.heap.size,.slice am lm cm),(g8,.slice ah lh ch),(g6,.slice af lf cf),(g5,.slice ag lg cg)]):=by rw[hV4];exact(un HFX wc (un HCC)).push _
       have HM4:=zAb ((un HVM).later hb);have HG4:=zAb (((un HG).later (un HCC)).later hb);have HF4:=zAb (((un HF).later (un HCC)).later hb);have HH4:=zAb (((un HH).later (un HCC)).later hb);clear hV4 hb;clear HS HG HF HH HX1 HY1 t0 t1 t3 t4 q6 q8 HFX HC HMA' HMB' HSG' zv za zb zc HVA HCA HVB HBB HVA' HCB HVM HBC HCC;generalize wc.heap.size=g11 at *)
    | (obtain⟨V4,hV4⟩:∃V4,V4=wc.setCell ⟨V3.heap.size,0,none⟩ (.slice am lm cm):=⟨_,rfl⟩
       rw[←hV4];have hlt:g8<V3.heap.size∧g6<V3.heap.size∧g5<V3.heap.size:=by omega
       have HS4:Hid (AS w V4 (.bool b) (.slice a1 l1 c1) (.slice a2 l2 c2) (.bool c) (.slice a3 l3 c3) (.slice a4 l4 c4) [(V3.heap.size,.slice am lm cm),(g8,.slice ah lh ch),(g6,.slice af lf cf),(g5,.slice ag lg cg)]):=by
         rw[hV4];exact((un HFX wc (un HCC)).add (un HN) (un HS).r.lt).set (by intro p hp;simp at hp;rcases hp with rfl|rfl|rfl<;>simp<;>omega) _
       have HM4:Hid (zAf V4 (.agg #[.slice am lm cm]) mm):=by rw[hV4];exact(un HVM).box _ nc (zAp _ _ _)
       have HG4:Hid (zAf V4 (.agg #[.slice ag lg cg]) s):=by rw[hV4];exact((un HG).later (un HCC)).box _ nc (zAp _ _ _)
       have HF4:Hid (zAf V4 (.agg #[.slice af lf cf]) f):=by rw[hV4];exact((un HF).later (un HCC)).box _ nc (zAp _ _ _)
       have HH4:Hid (zAf V4 (.agg #[.slice ah lh ch]) g):=by rw[hV4];exact((un HH).later (un HCC)).box _ nc (zAp _ _ _)
       clear hV4 HN nc nf;clear HS HG HF HH HX1 HY1 t0 t1 t3 t4 q6 q8 HFX HC HMA' HMB' HSG' zv za zb zc HVA HCA HVB HBB HVA' HCB HVM HBC HCC;generalize V3.heap.size=g11 at *)
    | (obtain⟨V4,hV4⟩:∃V4,V4=wc.setCell ⟨wa.heap.size,0,none⟩ (.slice am lm cm):=⟨_,rfl⟩
       rw[←hV4];have hlt:g8<wa.heap.size∧g6<wa.heap.size∧g5<wa.heap.size:=by omega
       have HS4:Hid (AS w V4 (.bool b) (.slice a1 l1 c1) (.slice a2 l2 c2) (.bool c) (.slice a3 l3 c3) (.slice a4 l4 c4) [(wa.heap.size,.slice am lm cm),(g8,.slice ah lh ch),(g6,.slice af lf cf),(g5,.slice ag lg cg)]):=by
         rw[hV4];exact((un HFX wc (un HCC)).add (un HN) (un HFX wa (un HCA)).r.lt).set (by intro p hp;simp at hp;rcases hp with rfl|rfl|rfl<;>simp<;>omega) _
       have HM4:Hid (zAf V4 (.agg #[.slice am lm cm]) mm):=by rw[hV4];exact(un HVM).box _ nc (zAp _ _ _)
       have HG4:Hid (zAf V4 (.agg #[.slice ag lg cg]) s):=by rw[hV4];exact((un HG).later (un HCC)).box _ nc (zAp _ _ _)
       have HF4:Hid (zAf V4 (.agg #[.slice af lf cf]) f):=by rw[hV4];exact((un HF).later (un HCC)).box _ nc (zAp _ _ _)
       have HH4:Hid (zAf V4 (.agg #[.slice ah lh ch]) g):=by rw[hV4];exact((un HH).later (un HCC)).box _ nc (zAp _ _ _)
       clear hV4 HN nc nf;clear HS HG HF HH HX1 HY1 t0 t1 t3 t4 q6 q8 HFX HC HMA' HMB' HSG' zv za zb zc HVA HCA HVB HBB HVA' HCB HVM HBC HCC;generalize wa.heap.size=g11 at *)
    | (obtain⟨V4,hV4⟩:∃V4,V4=wc.setCell ⟨wb.heap.size,0,none⟩ (.slice am lm cm):=⟨_,rfl⟩
       rw[←hV4];have hlt:g8<wb.heap.size∧g6<wb.heap.size∧g5<wb.heap.size:=by omega
       have HS4:Hid (AS w V4 (.bool b) (.slice a1 l1 c1) (.slice a2 l2 c2) (.bool c) (.slice a3 l3 c3) (.slice a4 l4 c4) [(wb.heap.size,.slice am lm cm),(g8,.slice ah lh ch),(g6,.slice af lf cf),(g5,.slice ag lg cg)]):=by
         rw[hV4];exact((un HFX wc (un HCC)).add (un HN) (un HFX wb (un HCB)).r.lt).set (by intro p hp;simp at hp;rcases hp with rfl|rfl|rfl<;>simp<;>omega) _
       have HM4:Hid (zAf V4 (.agg #[.slice am lm cm]) mm):=by rw[hV4];exact(un HVM).box _ nc (zAp _ _ _)
       have HG4:Hid (zAf V4 (.agg #[.slice ag lg cg]) s):=by rw[hV4];exact((un HG).later (un HCC)).box _ nc (zAp _ _ _)
       have HF4:Hid (zAf V4 (.agg #[.slice af lf cf]) f):=by rw[hV4];exact((un HF).later (un HCC)).box _ nc (zAp _ _ _)
       have HH4:Hid (zAf V4 (.agg #[.slice ah lh ch]) g):=by rw[hV4];exact((un HH).later (un HCC)).box _ nc (zAp _ _ _)
       clear hV4 HN nc nf;clear HS HG HF HH HX1 HY1 t0 t1 t3 t4 q6 q8 HFX HC HMA' HMB' HSG' zv za zb zc HVA HCA HVB HBB HVA' HCB HVM HBC HCC;generalize wb.heap.size=g11 at *)
    have n1:¬g11=g5:=by omega
    have n2:¬g5=g11:=by omega
    have q11:=((un HS4).bx (g11,.slice am lm cm) (by simp)).c;have q5:=((un HS4).bx (g5,.slice ag lg cg) (by simp)).c
    dsimp only at q11 q5
    go_upto_region 6 with (go_at_call 152;go_must(refine(un HLW V4 _ _ (un HM4) (un HG4)).mono ?_;rintro e w5 ⟨ai,li,ci,aj,lj,cj,rfl,hi5,hj5,hb5⟩;have HS5:=zAb ((un HS4).later hb5);have HI5:=zAb hi5;have HJ5:=zAb hj5;have HF5:=zAb ((un HF4).later hb5);have HH5:=zAb ((un HH4).later hb5);clear hi5 hj5 hb5 q11 q5;have q11:=((un HS5).bx (g11,.slice am lm cm) (by simp)).c;have q5:=((un HS5).bx (g5,.slice ag lg cg) (by simp)).c;have p11:=((un HS5).bx (g11,.slice am lm cm) (by simp)).f;have p5:=((un HS5).bx (g5,.slice ag lg cg) (by simp)).f;dsimp only at q11 q5 p11 p5))
    obtain⟨V5,hV5⟩:∃V5,V5=(w5.setCell ⟨g11,0,none⟩ (.slice ai li ci)).setCell ⟨g5,0,none⟩ (.slice aj lj cj):=⟨_,rfl⟩;rw[←hV5];have hq:(w5.setCell ⟨g11,0,none⟩ (.slice ai li ci)).cell? ⟨g5,0,none⟩=some (.slice ag lg cg):=by rw[World.cell?_setCell_other _ _ _ _ (by first|(simp;done)|(simp;omega)|(simp[n1,n2];done))];exact q5
    have HS6:Hid (AS w V5 (.bool b) (.slice a1 l1 c1) (.slice a2 l2 c2) (.bool c) (.slice a3 l3 c3) (.slice a4 l4 c4) [(g5,.slice aj lj cj),(g11,.slice ai li ci),(g8,.slice ah lh ch),(g6,.slice af lf cf)]):=by
      rw[hV5];have s1:=(un HS5).set (by intro p hp;simp at hp;rcases hp with rfl|rfl|rfl<;>simp<;>omega) (.slice ai li ci);exact(s1.sub (M:=[(g5,.slice ag lg cg),(g11,.slice ai li ci),(g8,.slice ah lh ch),(g6,.slice af lf cf)]) (by intro p hp;simp at hp ⊢;grind)).set (by intro p hp;simp at hp;rcases hp with rfl|rfl|rfl<;>simp<;>omega) _
    have HI6:Hid (zAf V5 (.agg #[.slice ai li ci]) M):=by rw[hV5];exact((un HI5).box _ q11 (zAp _ _ _)).box _ hq (zAp _ _ _)
    have HJ6:Hid (zAf V5 (.agg #[.slice aj lj cj]) T):=by rw[hV5];exact((un HJ5).box _ q11 (zAp _ _ _)).box _ hq (zAp _ _ _)
    have HF6:Hid (zAf V5 (.agg #[.slice af lf cf]) f):=by rw[hV5];exact((un HF5).box _ q11 (zAp _ _ _)).box _ hq (zAp _ _ _)
    have HH6:Hid (zAf V5 (.agg #[.slice ah lh ch]) g):=by rw[hV5];exact((un HH5).box _ q11 (zAp _ _ _)).box _ hq (zAp _ _ _)
    clear hV5 hq HS4 HM4 HG4 HF4 HH4 HS5 HI5 HJ5 HF5 HH5 q11 q5 p11 p5 HLW;have q11:=((un HS6).bx (g11,.slice ai li ci) (by simp)).c
    dsimp only at q11
    have HZ:=zAb (zCk _ M V5 (un HI6))
    by_cases hM0:M=0
    · have HV:Hid (Cub.valQ b n d+Cub.valQ c m e=0):=(un HADD).1 hM0
      rw[show(M == 0)=true by rw[hM0];rfl]at HZ;have HW0:=zAb (fun W=>whole_any 0 W (by omega));clear hM0
      go_wp2_with (first
        | (go_at_call 153;go_must(refine(un HZ).mono ?_;rintro e w6 ⟨rfl,hb6⟩;have HS7:=zAb ((un HS6).later hb6);clear hb6))
        | (go_at_call 154;go_must(refine(un HW0 _).mono ?_;rintro e w7 ⟨v7,rfl,hv7,hb7⟩;obtain⟨i1,i2,i3,i4,i5,i6,rfl,hw1,hw2⟩:=hv7.form;have HS8:=zAb ((un HS7).later hb7);have HW1:=zAb hw1;have HW2:=zAb hw2;clear hv7 hb7 hw1 hw2;have r0:=(un HS8).r.c0;have r1:=(un HS8).r.c1;have r2:=(un HS8).r.c2;have rf0:=(un HS8).r.f0;have rf1:=(un HS8).r.f1;have rf2:=(un HS8).r.f2)))
      have hS:=(un HS8).r.store (.bool false) (.slice i1 i2 i3) (.slice i4 i5 i6);have hb:Below w.heap.size w (zAs w7 (w.heap.size+1+1) (.bool false) (.slice i1 i2 i3) (.slice i4 i5 i6)):=zAq (un HS8).below (by omega) _ _ _;have u0:=hS.c0;have u1:=hS.c1;have u2:=hS.c2;exact bodyPost_ret (v:=.agg #[.bool false,.slice i1 i2 i3,.slice i4 i5 i6]) (w:=zAs w7 (w.heap.size+1+1) (.bool false) (.slice i1 i2 i3) (.slice i4 i5 i6)) (by simp[results,Tryz.results66,go_sem,u0,u1,u2]) rfl ⟨_,false,0,1,rfl,⟨_,_,rfl,(un HS8).r.big _ _ _ (un HW1),(un HS8).r.big _ _ _ (un HW2)⟩,Cub.low_zero,(by rw[un HV];exact Cub.valQ_zero _ _),(un HBD).2.2.1,(un HBD).2.2.2,hb⟩
    · have HV:=zAb ((un HADD).2 hM0)
      rw[show(M == 0)=false by rw[beq_eq_false_iff_ne];exact hM0]at HZ;clear hM0
      go_upto_region 8 with (go_at_call 153;go_must(refine(un HZ).mono ?_;rintro e w6 ⟨rfl,hb6⟩;have HS7:=zAb ((un HS6).later hb6);have HI7:=zAb ((un HI6).later hb6);have HJ7:=zAb ((un HJ6).later hb6);have HF7:=zAb ((un HF6).later hb6);have HH7:=zAb ((un HH6).later hb6);clear hb6 q11))
      clear HS6 HI6 HJ6 HF6 HH6 HZ;have q11:=((un HS7).bx (g11,.slice ai li ci) (by simp)).c;have q5:=((un HS7).bx (g5,.slice aj lj cj) (by simp)).c;have q6:=((un HS7).bx (g6,.slice af lf cf) (by simp)).c;have q8:=((un HS7).bx (g8,.slice ah lh ch) (by simp)).c
      dsimp only at q11 q5 q6 q8
      have HC:Hid (∀U,Below w6.heap.size w6 U→(U.cell? ⟨g11,0,none⟩=some (.slice ai li ci)∧U.cell? ⟨g5,0,none⟩=some (.slice aj lj cj)∧U.cell? ⟨g6,0,none⟩=some (.slice af lf cf)∧U.cell? ⟨g8,0,none⟩=some (.slice ah lh ch))∧U.cell? ⟨w.heap.size+1+1,0,none⟩=some (.bool false)∧U.cell? ⟨w.heap.size+1+1,1,none⟩=some (.slice none 0 0)∧U.cell? ⟨w.heap.size+1+1,2,none⟩=some (.slice none 0 0)∧U.frozen? ⟨w.heap.size+1+1,0,none⟩=false∧U.frozen? ⟨w.heap.size+1+1,1,none⟩=false∧U.frozen? ⟨w.heap.size+1+1,2,none⟩=false):=fun U hb=>by
        have s:=(un HS7).later hb;exact⟨⟨(s.bx (g11,.slice ai li ci) (by simp)).c,(s.bx (g5,.slice aj lj cj) (by simp)).c,(s.bx (g6,.slice af lf cf) (by simp)).c,(s.bx (g8,.slice ah lh ch) (by simp)).c⟩,s.r.c0,s.r.c1,s.r.c2,s.r.f0,s.r.f1,s.r.f2⟩
      have m1:w.heap.size+1+1<g11:=(un HS7).gt (g11,.slice ai li ci) (by simp);have m2:w.heap.size+1+1<g5:=(un HS7).gt (g5,.slice aj lj cj) (by simp);have m3:w.heap.size+1+1<g6:=(un HS7).gt (g6,.slice af lf cf) (by simp);have m4:w.heap.size+1+1<g8:=(un HS7).gt (g8,.slice ah lh ch) (by simp)
      go_region_held3 (fun w'=>w'.cell? ⟨g11,0,none⟩=some (.slice ai li ci)∧w'.cell? ⟨g5,0,none⟩=some (.slice aj lj cj)∧w'.cell? ⟨g6,0,none⟩=some (.slice af lf cf)∧w'.cell? ⟨g8,0,none⟩=some (.slice ah lh ch)) (first|assumption|(refine⟨?_,?_,?_,?_⟩<;>first|assumption|(simp[go_sem, *];done)|(rw[World.cell?_setCell_other _ _ _ _ (by simp;omega),World.cell?_setCell_other _ _ _ _ (by simp),World.cell?_setCell_other _ _ _ _ (by simp)];assumption))|(simp[go_sem, *];done)) ((first
        | (go_at_call_of 151 (Value.agg #[Value.slice aj lj cj]);go_must(refine(un HMC _ _ _ ((un HJ7).later ((Below.refl _ _).drew)) ((un HF7).later ((Below.refl _ _).drew))).mono ?_;rintro e wa2 ⟨va,rfl,hva,hba⟩;obtain⟨ak,lk,ck,rfl⟩:=hva.shape;have HVK:=zAb hva;have HCK:=zAb (((Below.refl w6.heap.size w6).drew).trans hba);clear hva hba q11 q5 q6 q8;obtain⟨⟨q11,q5,q6,q8⟩,_⟩:=un HC wa2 (un HCK)))
        | (go_at_call 151;go_must(refine(un HMD _ _ _ (un HVK) ((un HH7).later (un HCK))).mono ?_;rintro e wb2 ⟨vb,rfl,hvb,hbb⟩;obtain⟨ao,lo,co,rfl⟩:=hvb.shape;have HVO:=zAb hvb;have HCO:=zAb (bt HCK hbb);clear hvb hbb q11 q5 q6 q8;obtain⟨⟨q11,q5,q6,q8⟩,r0,r1,r2,rf0,rf1,rf2⟩:=un HC wb2 (un HCO)))))
      have HS8:=zAb ((un HS7).later (un HCO));have HI8:=zAb ((un HI7).later (un HCO));clear r0 r1 r2 rf0 rf1 rf2 q11 q5 q6 q8;have hS:=(un HS8).r.store (.bool bb) (.slice ai li ci) (.slice ao lo co);have hb:Below w.heap.size w (zAs wb2 (w.heap.size+1+1) (.bool bb) (.slice ai li ci) (.slice ao lo co)):=zAq (un HS8).below (by omega) _ _ _;have u0:=hS.c0;have u1:=hS.c1;have u2:=hS.c2;obtain⟨V9,hV9⟩:∃V9,V9=zAs wb2 (w.heap.size+1+1) (.bool bb) (.slice ai li ci) (.slice ao lo co):=⟨_,rfl⟩;have hV9':V9=((wb2.setCell ⟨w.heap.size+1+1,0,none⟩ (.bool bb)).setCell ⟨w.heap.size+1+1,1,none⟩ (.slice ai li ci)).setCell ⟨w.heap.size+1+1,2,none⟩ (.slice ao lo co):=hV9;have HE9:Hid (zAf V9 (.agg #[.slice ai li ci]) M∧zAf V9 (.agg #[.slice ao lo co]) (T*f*g)∧Bw w V9):=by rw[hV9];exact⟨(un HS8).r.big _ _ _ (un HI8),(un HS8).r.big _ _ _ (un HVO),hb⟩
      rw[←hV9]at u0 u1 u2;rw[←hV9'];clear hV9 hV9' hS hb m1 m2 m3 m4 hlt h56 h68 n1 n2
      go_wp2_with fail
      exact bodyPost_ret (v:=.agg #[.bool bb,.slice ai li ci,.slice ao lo co]) (by simp[results,Tryz.results66,go_sem,u0,u1,u2]) rfl ⟨_,bb,M,T*f*g,rfl,⟨_,_,rfl,(un HE9).1,(un HE9).2.1⟩,(un HV).1,(un HV).2,(un HBD).1,(un HBD).2.1,(un HE9).2.2⟩
theorem qadd (x y:Value) (p q:Rat) (k:Nat) (w:World) (hx:QOf w x p k) (hy:QOf w y q k) (hk:k+k+k≤100000) :
    Calls Tryz.prog 66 #[x,y] w fun r w'=>∃v,r=.returned v∧QOf w' v (p+q) (k+k+k)∧Bw w w':=by
  obtain⟨b,n,d,h1,h2,rfl,h4,h5⟩:=hx;obtain⟨c,m,e,i1,i2,rfl,i4,i5⟩:=hy;refine(fadd_any x y b c n d m e k w h1 i1 h2 i2 hk h4 h5 i4 i5 (divAns _ hk) (gcdAns _ hk)).mono ?_;rintro r w' ⟨v,b',n',d',rfl,j1,j2,j3,j4,j5,hb⟩;exact⟨v,rfl,⟨b',n',d',j1,j2,j3,j4,j5⟩,hb⟩
theorem ofTwo93_ok (n1 d1 n2 d2:ByteArray) (x y:Rat) (w:World) (h1:IsR n1 d1 x) (h2:IsR n2 d2 y) (htab:Tab w):Ans 64 #[.agg #[.string n1,.string d1],.agg #[.string n2,.string d2],.func (Fn.func 66) #[] #[]] w (zEp (x+y)) (zEr (x+y)) (zHa (x+y)):=by
  unfold Ans;obtain⟨V,hV⟩:∃V,V=((w.alloc (.cells #[.string n1,.string d1] 28)).alloc (.cells #[.string n2,.string d2] 28)).alloc (.cells #[G #[],G #[]] 28):=⟨_,rfl⟩;have HS:Hid (O3 w V (.string n1) (.string d1) (.string n2) (.string d2)):=by rw[hV];exact O3.first _ _ _ _ _
  have HV:=zAb hV;have HR:=zAb (readTwo_ok n1 d1 n2 d2 x y V h1 h2);have HT:=zAb (htab.later (un HS).below);clear h1 h2 htab;go_enter Tryz.func64,Tryz.ntmps64
  go_upto_region 1 with fail
  rw[←un HV];clear hV HV;have t0:=(un HS).a.c0;have t1:=(un HS).a.c1;have t2:=(un HS).b.c0;have t3:=(un HS).b.c1
  go_upto_region 2 with (go_at_call 67;go_must(refine(un HR).mono ?_;rintro e w1 ⟨v1,v2,rfl,hv1,hv2,hb1⟩;obtain⟨b1,i1,i2,i3,i4,i5,i6,rfl⟩:=hv1.form;obtain⟨b2,j1,j2,j3,j4,j5,j6,rfl⟩:=hv2.form;have HS1:=zAb ((un HS).later hb1);have HV1:=zAb hv1;have HV2:=zAb hv2;have HT1:=zAb ((un HT).later hb1);clear hv1 hv2 hb1 t0 t1 t2 t3))
  obtain⟨V2,hV2⟩:∃V2,V2=(w1.alloc (.cells #[.bool b1,.slice i1 i2 i3,.slice i4 i5 i6] 82)).alloc (.cells #[.bool b2,.slice j1 j2 j3,.slice j4 j5 j6] 82):=⟨_,rfl⟩;have hb:Below w1.heap.size w1 V2:=by rw[hV2];exact bA.alloc (by simp) _
  have HS2:=zAb ((un HS1).later hb);have HX:=zAb ((un HV1).later hb);have HY:=zAb ((un HV2).later hb);have HT2:=zAb ((un HT1).later hb);have HP:Hid (FBox V2 w1.heap.size (.bool b1) (.slice i1 i2 i3) (.slice i4 i5 i6)):=by rw[hV2];exact(FBox.new _ _ _ _).later bA
  have HQ:Hid (FBox V2 (w1.heap.size+1) (.bool b2) (.slice j1 j2 j3) (.slice j4 j5 j6)):=by
    rw[hV2];have:=FBox.new (w1.alloc (.cells #[.bool b1,.slice i1 i2 i3,.slice i4 i5 i6] 82)) (.bool b2) (.slice j1 j2 j3) (.slice j4 j5 j6)
    rwa [show(w1.alloc (.cells #[.bool b1,.slice i1 i2 i3,.slice i4 i5 i6] 82)).heap.size=w1.heap.size+1 by simp]at this
  rw[←hV2];clear hV2 hb HS HS1 HV1 HV2 HT HT1 HR;generalize w1.heap.size=g8 at *
  have t0:=(un HP).c0;have t1:=(un HP).c1;have t2:=(un HP).c2;have t3:=(un HQ).c0;have t4:=(un HQ).c1;have t5:=(un HQ).c2
  go_wp2_with (first
    | (go_at_call 66;go_must(refine(qadd _ _ x y 67 _ (un HX) (un HY) (by decide)).mono ?_;rintro e w3 ⟨v3,rfl,hv3,hb3⟩;have HV3:=zAb hv3;have HS3:=zAb ((un HS2).later hb3);have HT3:=zAb ((un HT2).later hb3);clear hv3 hb3 t0 t1 t2 t3 t4 t5))
    | (go_at_call 55;go_must(refine(qtell _ _ (67+67+67) _ (un HV3) (by decide) (un HT3)).mono ?_;rintro e w4 ⟨rfl,hb4⟩;have HS4:=zAb ((un HS3).later hb4);clear hb4;have r0:=(un HS4).r.c0;have r1:=(un HS4).r.c1;have rf0:=(un HS4).r.f0;have rf1:=(un HS4).r.f1)))
  have hS:=(un HS4).r.store (.string (zEp (x+y))) (.string (zEr (x+y)));have hb:Below w.heap.size w (zBh w4 (w.heap.size+1+1) (.string (zEp (x+y))) (.string (zEr (x+y)))):=zAk (un HS4).below (by omega) _ _;have u0:=hS.c0;have u1:=hS.c1;exact bodyPost_ret (v:=.tuple #[.agg #[.string (zEp (x+y)),.string (zEr (x+y))],I (zHa (x+y))]) (w:=zBh w4 (w.heap.size+1+1) (.string (zEp (x+y))) (.string (zEr (x+y)))) (by simp[results,Tryz.results64,go_sem,u0,u1]) rfl ⟨rfl,hb⟩
theorem radd_of (n1 d1 n2 d2 s t:ByteArray) (e:Int) (w:World) (h:∀W,Below w.heap.size w W→Ans 64 #[.agg #[.string n1,.string d1],.agg #[.string n2,.string d2],.func (Fn.func 66) #[] #[]] W s t e):Ans 30 #[.agg #[.string n1,.string d1],.agg #[.string n2,.string d2]] w s t e:=by
  unfold Ans at *
  obtain⟨V,hV⟩:∃V,V=((w.alloc (.cells #[.string n1,.string d1] 28)).alloc (.cells #[.string n2,.string d2] 28)).alloc (.cells #[G #[],G #[]] 28):=⟨_,rfl⟩;have HS:Hid (O3 w V (.string n1) (.string d1) (.string n2) (.string d2)):=by rw[hV];exact O3.first _ _ _ _ _
  have HV:=zAb hV;have HR:=zAb (h V (un HS).below);clear h;go_enter Tryz.func30,Tryz.ntmps30
  go_upto_region 1 with fail
  rw[←un HV];clear hV HV;have t0:=(un HS).a.c0;have t1:=(un HS).a.c1;have t2:=(un HS).b.c0;have t3:=(un HS).b.c1
  go_wp2_with (go_at_call 64;go_must(refine(un HR).mono ?_;rintro e w4 ⟨rfl,hb4⟩;have HS4:=zAb ((un HS).later hb4);clear hb4 t0 t1 t2 t3;have r0:=(un HS4).r.c0;have r1:=(un HS4).r.c1;have rf0:=(un HS4).r.f0;have rf1:=(un HS4).r.f1))
  have hS:=(un HS4).r.store (.string s) (.string t);have hb:Below w.heap.size w (zBh w4 (w.heap.size+1+1) (.string s) (.string t)):=zAk (un HS4).below (by omega) _ _;have u0:=hS.c0;have u1:=hS.c1;exact bodyPost_ret (v:=.tuple #[.agg #[.string s,.string t],I e]) (w:=zBh w4 (w.heap.size+1+1) (.string s) (.string t)) (by simp[results,Tryz.results30,go_sem,u0,u1]) rfl ⟨rfl,hb⟩
theorem radd_ok (n1 d1 n2 d2:ByteArray) (x y:Rat) (w:World) (h1:IsR n1 d1 x) (h2:IsR n2 d2 y) (htab:Tab w):Ans 30 #[.agg #[.string n1,.string d1],.agg #[.string n2,.string d2]] w (zEp (x+y)) (zEr (x+y)) (zHa (x+y)) :=
  radd_of n1 d1 n2 d2 _ _ _ w (fun W hb=>ofTwo93_ok n1 d1 n2 d2 x y W h1 h2 (htab.later hb))
end Go.Proofs.YtliadckofhblnaaGreatDoor

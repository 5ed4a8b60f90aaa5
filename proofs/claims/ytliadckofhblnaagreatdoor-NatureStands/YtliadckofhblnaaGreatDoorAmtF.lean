/- amount.factor (51). -/
import Derived.Test.YtliadckofhblnaaGreatDoorLimb3
import Derived.Test.YtliadckofhblnaaGreatDoorOwn
import Derived.Test.YtliadckofhblnaaGreatDoorDimEq
import Derived.Test.YtliadckofhblnaaGreatDoorFactor
set_option maxHeartbeats 4000000
set_option maxRecDepth 100000
namespace Go.Proofs.YtliadckofhblnaaGreatDoor.Dm
open Go.RowKit
theorem mul_abs {x n:Int} {p q:Nat} (h1:x.natAbs≤p) (h2:n.natAbs≤q):(x*n).natAbs≤p*q:=by
 rw[Int.natAbs_mul];exact Nat.mul_le_mul h1 h2
theorem zEg {x n:Int} (h1:-99≤x∧x≤99) (h2:-1000≤n∧n≤1000):wrap64 (x*n)=x*n:=by
 have:=mul_abs (x:=x) (n:=n) (p:=99) (q:=1000) (by omega) (by omega);unfold wrap64;omega
theorem zGa {x n:Int} (hx:x≠0) (hn:n < -99∨99<n):okB (x*n)=false:=by
 have h1:1≤x.natAbs:=by omega
 have h2:100≤n.natAbs:=by omega
 have h3:1*100≤x.natAbs*n.natAbs:=Nat.mul_le_mul h1 h2;rw[←Int.natAbs_mul]at h3;exact zHh (by omega)
def powErr (r:Bool) (l:List Int):Int:=if r=true then errOf (rightB l) 51 else 1
section
variable (x0 x1 x2 x3 x4 x5 x6 x7 n:Int)
theorem far_right (h:eqB [x0,x1,x2,x3,x4,x5,x6,x7] [0,0,0,0,0,0,0,0]=false) (hn:n < -99∨99<n):rightB [x0*n,x1*n,x2*n,x3*n,x4*n,x5*n,x6*n,x7*n]=false:=by
 by_cases h0:x0=0
 rotate_left
 ·exact zAr 0 (x0*n) rfl (zGa h0 hn)
 by_cases h1:x1=0
 rotate_left
 ·exact zAr 1 (x1*n) rfl (zGa h1 hn)
 by_cases h2:x2=0
 rotate_left
 ·exact zAr 2 (x2*n) rfl (zGa h2 hn)
 by_cases h3:x3=0
 rotate_left
 ·exact zAr 3 (x3*n) rfl (zGa h3 hn)
 by_cases h4:x4=0
 rotate_left
 ·exact zAr 4 (x4*n) rfl (zGa h4 hn)
 by_cases h5:x5=0
 rotate_left
 ·exact zAr 5 (x5*n) rfl (zGa h5 hn)
 by_cases h6:x6=0
 rotate_left
 ·exact zAr 6 (x6*n) rfl (zGa h6 hn)
 by_cases h7:x7=0
 rotate_left
 ·exact zAr 7 (x7*n) rfl (zGa h7 hn)
 simp[eqB,h0,h1,h2,h3,h4,h5,h6,h7]at h
theorem pow_any (w:World):Calls Tryz.prog 174 #[.agg #[I x0,I x1,I x2,I x3,I x4,I x5,I x6,I x7],I n] w fun e w'=>e=.returned (.tuple #[.agg #[I (sel (rightB [x0,x1,x2,x3,x4,x5,x6,x7] && rightB [x0*n,x1*n,x2*n,x3*n,x4*n,x5*n,x6*n,x7*n]) (x0*n)),I (sel (rightB [x0,x1,x2,x3,x4,x5,x6,x7] && rightB [x0*n,x1*n,x2*n,x3*n,x4*n,x5*n,x6*n,x7*n]) (x1*n)),I (sel (rightB [x0,x1,x2,x3,x4,x5,x6,x7] && rightB [x0*n,x1*n,x2*n,x3*n,x4*n,x5*n,x6*n,x7*n]) (x2*n)),I (sel (rightB [x0,x1,x2,x3,x4,x5,x6,x7] && rightB [x0*n,x1*n,x2*n,x3*n,x4*n,x5*n,x6*n,x7*n]) (x3*n)),I (sel (rightB [x0,x1,x2,x3,x4,x5,x6,x7] && rightB [x0*n,x1*n,x2*n,x3*n,x4*n,x5*n,x6*n,x7*n]) (x4*n)),I (sel (rightB [x0,x1,x2,x3,x4,x5,x6,x7] && rightB [x0*n,x1*n,x2*n,x3*n,x4*n,x5*n,x6*n,x7*n]) (x5*n)),I (sel (rightB [x0,x1,x2,x3,x4,x5,x6,x7] && rightB [x0*n,x1*n,x2*n,x3*n,x4*n,x5*n,x6*n,x7*n]) (x6*n)),I (sel (rightB [x0,x1,x2,x3,x4,x5,x6,x7] && rightB [x0*n,x1*n,x2*n,x3*n,x4*n,x5*n,x6*n,x7*n]) (x7*n))],I (powErr (rightB [x0,x1,x2,x3,x4,x5,x6,x7]) [x0*n,x1*n,x2*n,x3*n,x4*n,x5*n,x6*n,x7*n])])∧Bw w w':=by
 have HA:=zAb (right_any x0 x1 x2 x3 x4 x5 x6 x7);have HT:=zAb (zGf (x0*n) (x1*n) (x2*n) (x3*n) (x4*n) (x5*n) (x6*n) (x7*n));have HG:=zAb (rightB_get (l:=[x0,x1,x2,x3,x4,x5,x6,x7]));have HF:=zAb (far_right x0 x1 x2 x3 x4 x5 x6 x7 n);have heq:=eqIn24 x0 x1 x2 x3 x4 x5 x6 x7 0 0 0 0 0 0 0 0
 have hz:eqB [x0,x1,x2,x3,x4,x5,x6,x7] [0,0,0,0,0,0,0,0]=true→x0=0∧x1=0∧x2=0∧x3=0∧x4=0∧x5=0∧x6=0∧x7=0:=by
  intro h;simpa [eqB] using h
 have HZ:=zAb hz;clear hz;unfold powErr;generalize hr:rightB [x0,x1,x2,x3,x4,x5,x6,x7]=r at *
 cases r with
 | false=>
  clear hr;simp only[Bool.false_and,sel_false,Bool.false_eq_true,if_false];go_enter Tryz.func174,Tryz.ntmps174
  go_wp2_with (go_at_call 170;refine(un HA _).mono ?_;rintro e w' ⟨rfl,rfl⟩)
  exact bodyPost_ret (v:=.tuple #[.agg #[I 0,I 0,I 0,I 0,I 0,I 0,I 0,I 0],I 1]) (by simp[results,Tryz.results174,go_sem]) rfl ⟨rfl,by repeat (first|exact Below.refl _ _|(refine Below.alloc ?_ (by simp<;>omega) _))⟩
 | true=>
  simp only[Bool.true_and,if_true];have hb:=un HG rfl;clear hr
  cases he:eqB [x0,x1,x2,x3,x4,x5,x6,x7] [0,0,0,0,0,0,0,0]with
  | true=>
   obtain⟨rfl,rfl,rfl,rfl,rfl,rfl,rfl,rfl⟩:=un HZ he
   have hr0:rightB [0*n,0*n,0*n,0*n,0*n,0*n,0*n,0*n]=true:=rightB_true fun j x hx=>by
    have hm:=List.mem_of_getElem? hx;have:x=0:=by simp at hm;exact hm
    subst this;rfl
   rw[hr0];simp only[sel_true,errOf_true,Int.zero_mul];rw[he]at heq;clear HF HT HZ hr0 hb HG he;go_enter Tryz.func174,Tryz.ntmps174
   go_wp2_with (go_at_call 170;refine(un HA _).mono ?_;rintro e w' ⟨rfl,rfl⟩)
   exact bodyPost_ret (v:=.tuple #[.agg #[I 0,I 0,I 0,I 0,I 0,I 0,I 0,I 0],I 0]) (by simp[results,Tryz.results174,go_sem]) rfl ⟨rfl,by repeat (first|exact Below.refl _ _|(refine Below.alloc ?_ (by simp<;>omega) _))⟩
  | false=>
   rw[he]at heq
   by_cases hn:n < -99∨99<n
   ·rw[un HF he hn]
    simp only[sel_false,errOf_false];clear HF HT HZ hb HG he;rcases hn with hn|hn
    ·go_enter Tryz.func174,Tryz.ntmps174
     go_wp2_with (go_at_call 170;refine(un HA _).mono ?_;rintro e w' ⟨rfl,rfl⟩)
     exact bodyPost_ret (v:=.tuple #[.agg #[I 0,I 0,I 0,I 0,I 0,I 0,I 0,I 0],I 51]) (by simp[results,Tryz.results174,go_sem]) rfl ⟨rfl,by repeat (first|exact Below.refl _ _|(refine Below.alloc ?_ (by simp<;>omega) _))⟩
    ·have hn':¬n < -99:=by omega
     go_enter Tryz.func174,Tryz.ntmps174
     go_wp2_with (go_at_call 170;refine(un HA _).mono ?_;rintro e w' ⟨rfl,rfl⟩)
     exact bodyPost_ret (v:=.tuple #[.agg #[I 0,I 0,I 0,I 0,I 0,I 0,I 0,I 0],I 51]) (by simp[results,Tryz.results174,go_sem]) rfl ⟨rfl,by repeat (first|exact Below.refl _ _|(refine Below.alloc ?_ (by simp<;>omega) _))⟩
   ·have h1:¬n < -99:=by omega
    have h2:¬ 99<n:=by omega
    have m0:=zEg (n:=n) (hb 0 x0 rfl) (by omega);have m1:=zEg (n:=n) (hb 1 x1 rfl) (by omega);have m2:=zEg (n:=n) (hb 2 x2 rfl) (by omega);have m3:=zEg (n:=n) (hb 3 x3 rfl) (by omega);have m4:=zEg (n:=n) (hb 4 x4 rfl) (by omega);have m5:=zEg (n:=n) (hb 5 x5 rfl) (by omega);have m6:=zEg (n:=n) (hb 6 x6 rfl) (by omega);have m7:=zEg (n:=n) (hb 7 x7 rfl) (by omega);clear hn HF HZ hb HG he;generalize rightB [x0*n,x1*n,x2*n,x3*n,x4*n,x5*n,x6*n,x7*n]=rq at *
    go_enter Tryz.func174,Tryz.ntmps174
    go_wp2_with (go_at_call 170;refine(un HA _).mono ?_;rintro e w' ⟨rfl,rfl⟩)
    refine wp_loop_rounds 9 ?_
    repeat any_goals (rw[rounds_succ];go_wp2_with (go_at_call 179;refine(un HT _).mono ?_;rintro e w' ⟨rfl,rfl⟩))
    exact bodyPost_ret (v:=.tuple #[.agg #[I (sel rq (x0*n)),I (sel rq (x1*n)),I (sel rq (x2*n)),I (sel rq (x3*n)),I (sel rq (x4*n)),I (sel rq (x5*n)),I (sel rq (x6*n)),I (sel rq (x7*n))],I (errOf rq 51)]) (by simp[results,Tryz.results174,go_sem]) rfl ⟨rfl,by repeat (first|exact Below.refl _ _|(refine Below.alloc ?_ (by simp<;>omega) _))⟩
end
end Go.Proofs.YtliadckofhblnaaGreatDoor.Dm
namespace Go.Proofs.YtliadckofhblnaaGreatDoor
open Go.RowKit
def uD (k j:Nat):Int:=if j=k then 1 else 0
def eD (k:Nat) (n:Int) (j:Nat):Int:=if j=k then n else 0
def prD (ev:Nat→Int) (k j:Nat):Int:=if j<k then ev j else 0
theorem pow_unit:∀(k:Nat),k<8→∀(n:Int) (w:World),-99≤n→n≤99→Calls Tryz.prog 174 #[.agg #[I (uD k 0),I (uD k 1),I (uD k 2),I (uD k 3),I (uD k 4),I (uD k 5),I (uD k 6),I (uD k 7)],I n] w fun e w'=>e=.returned (.tuple #[.agg #[I (eD k n 0),I (eD k n 1),I (eD k n 2),I (eD k n 3),I (eD k n 4),I (eD k n 5),I (eD k n 6),I (eD k n 7)],I 0])∧Bw w w'
 | 0,_=>fun n w h1 h2=>by
  have h:=Dm.pow_any 1 0 0 0 0 0 0 0 n w;have hr:Dm.rightB [1*n,0*n,0*n,0*n,0*n,0*n,0*n,0*n]=true:=by simp[Dm.rightB,Dm.okB];omega
  rw[hr,show Dm.rightB [1,0,0,0,0,0,0,0]=true from by decide]at h;simp only[Bool.and_self,Dm.sel_true,Int.zero_mul,Int.one_mul,Dm.powErr,if_true]at h;rw[show Dm.rightB [n,0,0,0,0,0,0,0]=true from by simp[Dm.rightB,Dm.okB];omega]at h;exact h
 | 1,_=>fun n w h1 h2=>by
  have h:=Dm.pow_any 0 1 0 0 0 0 0 0 n w;have hr:Dm.rightB [0*n,1*n,0*n,0*n,0*n,0*n,0*n,0*n]=true:=by simp[Dm.rightB,Dm.okB];omega
  rw[hr,show Dm.rightB [0,1,0,0,0,0,0,0]=true from by decide]at h;simp only[Bool.and_self,Dm.sel_true,Int.zero_mul,Int.one_mul,Dm.powErr,if_true]at h;rw[show Dm.rightB [0,n,0,0,0,0,0,0]=true from by simp[Dm.rightB,Dm.okB];omega]at h;exact h
 | 2,_=>fun n w h1 h2=>by
  have h:=Dm.pow_any 0 0 1 0 0 0 0 0 n w;have hr:Dm.rightB [0*n,0*n,1*n,0*n,0*n,0*n,0*n,0*n]=true:=by simp[Dm.rightB,Dm.okB];omega
  rw[hr,show Dm.rightB [0,0,1,0,0,0,0,0]=true from by decide]at h;simp only[Bool.and_self,Dm.sel_true,Int.zero_mul,Int.one_mul,Dm.powErr,if_true]at h;rw[show Dm.rightB [0,0,n,0,0,0,0,0]=true from by simp[Dm.rightB,Dm.okB];omega]at h;exact h
 | 3,_=>fun n w h1 h2=>by
  have h:=Dm.pow_any 0 0 0 1 0 0 0 0 n w;have hr:Dm.rightB [0*n,0*n,0*n,1*n,0*n,0*n,0*n,0*n]=true:=by simp[Dm.rightB,Dm.okB];omega
  rw[hr,show Dm.rightB [0,0,0,1,0,0,0,0]=true from by decide]at h;simp only[Bool.and_self,Dm.sel_true,Int.zero_mul,Int.one_mul,Dm.powErr,if_true]at h;rw[show Dm.rightB [0,0,0,n,0,0,0,0]=true from by simp[Dm.rightB,Dm.okB];omega]at h;exact h
 | 4,_=>fun n w h1 h2=>by
  have h:=Dm.pow_any 0 0 0 0 1 0 0 0 n w;have hr:Dm.rightB [0*n,0*n,0*n,0*n,1*n,0*n,0*n,0*n]=true:=by simp[Dm.rightB,Dm.okB];omega
  rw[hr,show Dm.rightB [0,0,0,0,1,0,0,0]=true from by decide]at h;simp only[Bool.and_self,Dm.sel_true,Int.zero_mul,Int.one_mul,Dm.powErr,if_true]at h;rw[show Dm.rightB [0,0,0,0,n,0,0,0]=true from by simp[Dm.rightB,Dm.okB];omega]at h;exact h
 | 5,_=>fun n w h1 h2=>by
  have h:=Dm.pow_any 0 0 0 0 0 1 0 0 n w;have hr:Dm.rightB [0*n,0*n,0*n,0*n,0*n,1*n,0*n,0*n]=true:=by simp[Dm.rightB,Dm.okB];omega
  rw[hr,show Dm.rightB [0,0,0,0,0,1,0,0]=true from by decide]at h;simp only[Bool.and_self,Dm.sel_true,Int.zero_mul,Int.one_mul,Dm.powErr,if_true]at h;rw[show Dm.rightB [0,0,0,0,0,n,0,0]=true from by simp[Dm.rightB,Dm.okB];omega]at h;exact h
 | 6,_=>fun n w h1 h2=>by
  have h:=Dm.pow_any 0 0 0 0 0 0 1 0 n w;have hr:Dm.rightB [0*n,0*n,0*n,0*n,0*n,0*n,1*n,0*n]=true:=by simp[Dm.rightB,Dm.okB];omega
  rw[hr,show Dm.rightB [0,0,0,0,0,0,1,0]=true from by decide]at h;simp only[Bool.and_self,Dm.sel_true,Int.zero_mul,Int.one_mul,Dm.powErr,if_true]at h;rw[show Dm.rightB [0,0,0,0,0,0,n,0]=true from by simp[Dm.rightB,Dm.okB];omega]at h;exact h
 | 7,_=>fun n w h1 h2=>by
  have h:=Dm.pow_any 0 0 0 0 0 0 0 1 n w;have hr:Dm.rightB [0*n,0*n,0*n,0*n,0*n,0*n,0*n,1*n]=true:=by simp[Dm.rightB,Dm.okB];omega
  rw[hr,show Dm.rightB [0,0,0,0,0,0,0,1]=true from by decide]at h;simp only[Bool.and_self,Dm.sel_true,Int.zero_mul,Int.one_mul,Dm.powErr,if_true]at h;rw[show Dm.rightB [0,0,0,0,0,0,0,n]=true from by simp[Dm.rightB,Dm.okB];omega]at h;exact h
 | _+8,h=>absurd h (by omega)
theorem mul_two (P Q R:Nat→Int) (b:Nat) (w:World) (hP:∀j,j<8→-99≤P j∧P j≤99) (hQ:∀j,j<8→-99≤Q j∧Q j≤99) (hR:∀j,j<8→-99≤R j∧R j≤99∧R j=P j+Q j) (ho:zAc w b 26 #[I (P 0),I (P 1),I (P 2),I (P 3),I (P 4),I (P 5),I (P 6),I (P 7),I (Q 0),I (Q 1),I (Q 2),I (Q 3),I (Q 4),I (Q 5),I (Q 6),I (Q 7)]) :
 Calls Tryz.prog 175 #[.slice (some ⟨b,0,none⟩) 2 2] w fun e w'=>e=.returned (.tuple #[.agg #[I (R 0),I (R 1),I (R 2),I (R 3),I (R 4),I (R 5),I (R 6),I (R 7)],I 0])∧Bw w w':=by
 obtain⟨X,hX⟩:∃X:Nat→Nat→Int,X=fun i j=>if i=0 then P j else Q j:=⟨_,rfl⟩
 have hD:Dm.Dims w b 0 2 X:=by
  refine⟨ho.lt,fun i hi j hj=>?_⟩;rw[hX];have hi2:i=0∨i=1:=by omega
  rcases hi2 with rfl|rfl<;>rcases Dm.eight (Nat.le_of_lt hj)with rfl|rfl|rfl|rfl|rfl|rfl|rfl|rfl|rfl<;>first|exact ho.ub.c _ _ rfl|omega
 have hs:∀j,j<8→Dm.sumD X 2 j=R j:=fun j hj=>by
  have a:=hP j hj;have c:=hR j hj;simp only[Dm.sumD,hX,if_true,if_neg (show ¬(1:Nat)=0 by decide),Int.zero_add];rw[show wrap64 (P j)=P j from by unfold wrap64;omega,show wrap64 (P j+Q j)=P j+Q j from by unfold wrap64;omega];exact c.2.2.symm
 have h0:X 0=P:=by rw[hX];rfl
 have h1:X 1=Q:=by rw[hX];rfl
 have r1:Dm.allB X 2=true:=by
  simp only[Dm.allB,Bool.true_and,Dm.dimAt,h0,h1]
  have hp:∀F:Nat→Int,(∀j,j<8→-99≤F j∧F j≤99)→Dm.rightB [F 0,F 1,F 2,F 3,F 4,F 5,F 6,F 7]=true:=fun F hF=>by
   have f0:=hF 0 (by decide);have f1:=hF 1 (by decide);have f2:=hF 2 (by decide);have f3:=hF 3 (by decide);have f4:=hF 4 (by decide);have f5:=hF 5 (by decide);have f6:=hF 6 (by decide);have f7:=hF 7 (by decide);simp[Dm.rightB,Dm.okB];omega
  rw[hp P hP,hp Q hQ];rfl
 have r2:Dm.sumL X 2=[R 0,R 1,R 2,R 3,R 4,R 5,R 6,R 7]:=by unfold Dm.sumL;rw[hs 0 (by decide),hs 1 (by decide),hs 2 (by decide),hs 3 (by decide),hs 4 (by decide),hs 5 (by decide),hs 6 (by decide),hs 7 (by decide)]
 have r3:Dm.rightB [R 0,R 1,R 2,R 3,R 4,R 5,R 6,R 7]=true:=by
  have f0:=hR 0 (by decide);have f1:=hR 1 (by decide);have f2:=hR 2 (by decide);have f3:=hR 3 (by decide);have f4:=hR 4 (by decide);have f5:=hR 5 (by decide);have f6:=hR 6 (by decide);have f7:=hR 7 (by decide);simp[Dm.rightB,Dm.okB];omega
 have h:=Dm.mul_any b 0 2 2 X w (by decide) hD;unfold Dm.mulErr at h
 rw[r1,r2,r3,hs 0 (by decide),hs 1 (by decide),hs 2 (by decide),hs 3 (by decide),hs 4 (by decide),hs 5 (by decide),hs 6 (by decide),hs 7 (by decide)]at h;exact h
theorem parts_dim:∀k:Nat,k<8→∀j v,([I (uD k 0),I (uD k 1),I (uD k 2),I (uD k 3),I (uD k 4),I (uD k 5),I (uD k 6),I (uD k 7)]:List Value)[j]?=some v→zCr[k*15+2+j]?=some v:=by
 intro k hk j v h
 have key:∀k:Nat,k<8→∀j:Nat,j<8→zCr[k*15+2+j]?=([I (uD k 0),I (uD k 1),I (uD k 2),I (uD k 3),I (uD k 4),I (uD k 5),I (uD k 6),I (uD k 7)]:List Value)[j]?:=by
  intro k hk j hj;rcases Dm.eight (Nat.le_of_lt hk)with rfl|rfl|rfl|rfl|rfl|rfl|rfl|rfl|rfl<;>rcases Dm.eight (Nat.le_of_lt hj)with rfl|rfl|rfl|rfl|rfl|rfl|rfl|rfl|rfl<;>first|omega|kernel_rfl
 rw[key k hk j (List.getElem?_eq_some_iff.1 h).1];exact h
theorem evIx (ev:Nat→Int):∀k:Nat,k<8→∀w:World,(Instr.index 25 (.agg #[I (ev 0),I (ev 1),I (ev 2),I (ev 3),I (ev 4),I (ev 5),I (ev 6),I (ev 7)]) (I (k:Int))).run Tryz.prog w=.ok (I (ev k)) w
 | 0,_=>fun w=>by kernel_rfl
 | 1,_=>fun w=>by kernel_rfl
 | 2,_=>fun w=>by kernel_rfl
 | 3,_=>fun w=>by kernel_rfl
 | 4,_=>fun w=>by kernel_rfl
 | 5,_=>fun w=>by kernel_rfl
 | 6,_=>fun w=>by kernel_rfl
 | 7,_=>fun w=>by kernel_rfl
 | _+8,h=>absurd h (by omega)
theorem zCw:(Tryz.prog.info? 26).map (·.size)=some 8:=by kernel_rfl
theorem res26 {fn:Func} {p:Tmp} (h:fn.results=#[.cell p 26]) (tmps:Array Value) (w:World) (g:Nat) (vs:Array Value) (hl:vs.size=8) (hp:tmps.getD p undef=.pointer (some ⟨g,0,none⟩)) (ho:zAc w g 26 vs) :
 (results fn tmps).run Tryz.prog w=.ok (.agg vs) w:=by
 rw[zBb h,hp];simp only[asAddr,Sem.run_pure,Result.andThen_ok];rw[run_loadVar_row w g 26 26 vs (0,0) _ ho Tryz.underlying26 rfl (by rw[zCw,hl])]
theorem prD_next (ev:Nat→Int) (k:Nat) (hE:∀j,-99≤ev j∧ev j≤99):(∀j,j<8→-99≤prD ev k j∧prD ev k j≤99)∧(∀j,j<8→-99≤eD k (ev k) j∧eD k (ev k) j≤99)∧∀j,j<8→-99≤prD ev (k+1) j∧prD ev (k+1) j≤99∧prD ev (k+1) j=prD ev k j+eD k (ev k) j:=by
 refine⟨fun j _=>?_,fun j _=>?_,fun j _=>?_⟩
 ·unfold prD;split
  ·exact hE j
  ·omega
 ·unfold eD;split
  ·exact hE k
  ·omega
 ·unfold prD eD
  have:=hE j
  by_cases h1:j<k
  ·rw[if_pos (by omega),if_pos h1,if_neg (by omega)];omega
  ·by_cases h2:j=k
   ·subst h2;rw[if_pos (by omega),if_neg h1,if_pos rfl];omega
   ·rw[if_neg (by omega),if_neg h1,if_neg h2];omega
theorem amtDim (ev:Nat→Int) (nu de:Int) (w:World) (hE:∀j,-99≤ev j∧ev j≤99) :
 Calls Tryz.prog 230 #[.agg (J (ev 0) (ev 1) (ev 2) (ev 3) (ev 4) (ev 5) (ev 6) (ev 7) nu de),.agg zCr] w fun r w'=>r=.returned (.agg #[I (ev 0),I (ev 1),I (ev 2),I (ev 3),I (ev 4),I (ev 5),I (ev 6),I (ev 7)])∧Bw w w':=by
 obtain⟨pa,hpa⟩:∃pa,pa=zCr:=⟨_,rfl⟩;have HPD:Hid (∀k:Nat,k<8→∀j v,([I (uD k 0),I (uD k 1),I (uD k 2),I (uD k 3),I (uD k 4),I (uD k 5),I (uD k 6),I (uD k 7)]:List Value)[j]?=some v→pa[k*15+2+j]?=some v):=by rw[hpa];exact parts_dim
 rw[←hpa];clear hpa;obtain⟨V,hV⟩:∃V,V=((w.alloc (.cells (J (ev 0) (ev 1) (ev 2) (ev 3) (ev 4) (ev 5) (ev 6) (ev 7) nu de) 180)).alloc (.cells pa 186)).alloc (.cells #[I 0,I 0,I 0,I 0,I 0,I 0,I 0,I 0] 26):=⟨_,rfl⟩;have HB:Hid (Bw w V):=by rw[hV];exact(bA.alloc (by simp) _).alloc (by simp;omega) _
 have HA:Hid (zAc V w.heap.size 180 (J (ev 0) (ev 1) (ev 2) (ev 3) (ev 4) (ev 5) (ev 6) (ev 7) nu de)):=by rw[hV];exact((zAc.new _ _ _).alloc _).alloc _
 have HO:Hid (zAc V (w.heap.size+1) 186 pa):=by rw[hV];have h:=zAc.new (w.alloc (.cells (J (ev 0) (ev 1) (ev 2) (ev 3) (ev 4) (ev 5) (ev 6) (ev 7) nu de) 180)) pa 186;rw[Dm.size_alloc]at h;exact h.alloc _
 have HR:Hid (zAc V (w.heap.size+1+1) 26 #[I 0,I 0,I 0,I 0,I 0,I 0,I 0,I 0]):=by rw[hV];have h:=zAc.new ((w.alloc (.cells (J (ev 0) (ev 1) (ev 2) (ev 3) (ev 4) (ev 5) (ev 6) (ev 7) nu de) 180)).alloc (.cells pa 186)) #[I 0,I 0,I 0,I 0,I 0,I 0,I 0,I 0] 26;rw[Dm.size_alloc,Dm.size_alloc]at h;exact h
 have HE:=zAb hE;have HV:=zAb hV;clear hV hE;go_enter Tryz.func230,Tryz.ntmps230
 go_upto_region 1 with fail
 rw[←un HV];clear HV
 go_upto_region 2 with (refine zAn 26 8 zCw rfl (.tmp 5) (.tmp 10) rfl V.heap.size #[I 0,I 0,I 0,I 0,I 0,I 0,I 0,I 0] #[I 0,I 0,I 0,I 0,I 0,I 0,I 0,I 0] rfl rfl rfl rfl (zAc.new _ _ _) (by kernel_rfl) ?_)
 have hb1:Below V.heap.size V ((V.alloc (.cells #[I 0,I 0,I 0,I 0,I 0,I 0,I 0,I 0] 26)).setRow V.heap.size #[I 0,I 0,I 0,I 0,I 0,I 0,I 0,I 0]):=below_setRow (zBx _ _) (Nat.le_refl _) _;have HP1:Hid (zAc ((V.alloc (.cells #[I 0,I 0,I 0,I 0,I 0,I 0,I 0,I 0] 26)).setRow V.heap.size #[I 0,I 0,I 0,I 0,I 0,I 0,I 0,I 0]) V.heap.size 26 #[I (prD ev 0 0),I (prD ev 0 1),I (prD ev 0 2),I (prD ev 0 3),I (prD ev 0 4),I (prD ev 0 5),I (prD ev 0 6),I (prD ev 0 7)]):=(zAc.new _ _ _).setRow _;have HA1:=zAb ((un HA).later hb1);have HO1:=zAb ((un HO).later hb1);have HR1:=zAb ((un HR).later hb1);have HB1:Hid (Bw w _):=bt HB hb1;have HG5:Hid (w.heap.size+1+1<V.heap.size):=(un HR).lt;clear hb1 HA HO HR HB;generalize (V.alloc (.cells #[I 0,I 0,I 0,I 0,I 0,I 0,I 0,I 0] 26)).setRow V.heap.size #[I 0,I 0,I 0,I 0,I 0,I 0,I 0,I 0]=w1 at *
 generalize V.heap.size=g5 at *
 have x0:w1.cell? ⟨w.heap.size,0,none⟩=some (I (ev 0)):=(un HA1).ub.c 0 _ rfl;have x1:w1.cell? ⟨w.heap.size,1,none⟩=some (I (ev 1)):=(un HA1).ub.c 1 _ rfl;have x2:w1.cell? ⟨w.heap.size,2,none⟩=some (I (ev 2)):=(un HA1).ub.c 2 _ rfl;have x3:w1.cell? ⟨w.heap.size,3,none⟩=some (I (ev 3)):=(un HA1).ub.c 3 _ rfl;have x4:w1.cell? ⟨w.heap.size,4,none⟩=some (I (ev 4)):=(un HA1).ub.c 4 _ rfl;have x5:w1.cell? ⟨w.heap.size,5,none⟩=some (I (ev 5)):=(un HA1).ub.c 5 _ rfl;have x6:w1.cell? ⟨w.heap.size,6,none⟩=some (I (ev 6)):=(un HA1).ub.c 6 _ rfl;have x7:w1.cell? ⟨w.heap.size,7,none⟩=some (I (ev 7)):=(un HA1).ub.c 7 _ rfl
 go_upto_region 3 with fail
 clear x0 x1 x2 x3 x4 x5 x6 x7
 go_loopw [13] (fun s13 wr=>∃(k:Nat),k≤8∧s13=I (k:Int)∧Hid (zAc wr g5 26 #[I (prD ev k 0),I (prD ev k 1),I (prD ev k 2),I (prD ev k 3),I (prD ev k 4),I (prD ev k 5),I (prD ev k 6),I (prD ev k 7)])∧Hid (zAc wr (w.heap.size+1) 186 pa)∧Hid (zAc wr (w.heap.size+1+1) 26 #[I 0,I 0,I 0,I 0,I 0,I 0,I 0,I 0])∧Hid (Bw w wr)) (fun s13 _=>8 - (intOf s13).toNat)
 case atStart=>exact⟨0,by omega,rfl,HP1,HO1,HR1,HB1⟩
 case round=>
  clear HP1 HO1 HR1 HB1 HA1;obtain⟨k,hk,rfl,HP,HO,HR,HB⟩:=hrel
  by_cases hlt:k<8
  ·have hkI:(k:Int)<8:=by omega
   have hk0:(0:Int)≤(k:Int):=by omega
   have hix:=evIx ev k hlt;have HMD:Hid (wr.rangeAt (w.heap.size+1) (k*15+2) [I (uD k 0),I (uD k 1),I (uD k 2),I (uD k 3),I (uD k 4),I (uD k 5),I (uD k 6),I (uD k 7)]):=(un HO).mid _ _ (un HPD k hlt);have HPW:=zAb (fun W=>pow_unit k hlt (ev k) W (un HE k).1 (un HE k).2);have HMU:=zAb (fun b W h=>mul_two (prD ev k) (eD k (ev k)) (prD ev (k+1)) b W (prD_next ev k (un HE)).1 (prD_next ev k (un HE)).2.1 (prD_next ev k (un HE)).2.2 h);obtain⟨R,hR⟩:∃R,R=prD ev (k+1):=⟨_,rfl⟩;rw[←hR]at HMU;have HRR:=zAb hR;clear hR;generalize prD ev k=P at *
   generalize eD k (ev k)=Q at *
   generalize uD k=U at *
   go_upto_region 6 with (first
    | (refine wpList_load_mid rfl 26 (.tmp 20) rfl (w.heap.size+1) (k*15+2) rfl [I (U 0),I (U 1),I (U 2),I (U 3),I (U 4),I (U 5),I (U 6),I (U 7)] _ (un HMD) Tryz.underlying26 rfl zCw ?_)
    | (go_at_call 174;go_must(refine(un HPW _).mono ?_;rintro e w2 ⟨rfl,hb⟩;have HP2:=zAb ((un HP).later hb);have HO2:=zAb ((un HO).later hb);have HR2:=zAb ((un HR).later hb);have HB2:Hid (Bw w w2):=bt HB hb;clear hb))
    | (refine zAn 26 8 zCw rfl (.tmp 8) (.tmp 24) rfl w2.heap.size #[I 0,I 0,I 0,I 0,I 0,I 0,I 0,I 0] #[I (Q 0),I (Q 1),I (Q 2),I (Q 3),I (Q 4),I (Q 5),I (Q 6),I (Q 7)] rfl rfl rfl rfl (zAc.new _ _ _) (by kernel_rfl) ?_))
   have hb3:Below w2.heap.size w2 ((w2.alloc (.cells #[I 0,I 0,I 0,I 0,I 0,I 0,I 0,I 0] 26)).setRow w2.heap.size #[I (Q 0),I (Q 1),I (Q 2),I (Q 3),I (Q 4),I (Q 5),I (Q 6),I (Q 7)]):=below_setRow (zBx _ _) (Nat.le_refl _) _;have HQ3:Hid (zAc ((w2.alloc (.cells #[I 0,I 0,I 0,I 0,I 0,I 0,I 0,I 0] 26)).setRow w2.heap.size #[I (Q 0),I (Q 1),I (Q 2),I (Q 3),I (Q 4),I (Q 5),I (Q 6),I (Q 7)]) w2.heap.size 26 #[I (Q 0),I (Q 1),I (Q 2),I (Q 3),I (Q 4),I (Q 5),I (Q 6),I (Q 7)]):=(zAc.new _ _ _).setRow _;have HP3:=zAb ((un HP2).later hb3);have HO3:=zAb ((un HO2).later hb3);have HR3:=zAb ((un HR2).later hb3);have HB3:Hid (Bw w _):=bt HB2 hb3;clear hb3 hix HP2 HO2 HR2 HB2 HP HO HR HB HMD HPW;generalize (w2.alloc (.cells #[I 0,I 0,I 0,I 0,I 0,I 0,I 0,I 0] 26)).setRow w2.heap.size #[I (Q 0),I (Q 1),I (Q 2),I (Q 3),I (Q 4),I (Q 5),I (Q 6),I (Q 7)]=w3 at *
   generalize w2.heap.size=g8 at *
   have HMC:Hid (∀W,W=w3.alloc (.cells #[I (P 0),I (P 1),I (P 2),I (P 3),I (P 4),I (P 5),I (P 6),I (P 7),I (Q 0),I (Q 1),I (Q 2),I (Q 3),I (Q 4),I (Q 5),I (Q 6),I (Q 7)] 26)→Calls Tryz.prog 175 #[.slice (some ⟨w3.heap.size,0,none⟩) 2 2] W fun e w'=>e=.returned (.tuple #[.agg #[I (R 0),I (R 1),I (R 2),I (R 3),I (R 4),I (R 5),I (R 6),I (R 7)],I 0])∧Bw W w'):=fun W hW=>un HMU _ W (by rw[hW];exact zAc.new _ _ _)
   go_upto_region 7 with (first
    | (refine wpList_load_row rfl 26 (.tmp 5) rfl g5 rfl 26 #[I (P 0),I (P 1),I (P 2),I (P 3),I (P 4),I (P 5),I (P 6),I (P 7)] (0,0) _ (un HP3) Tryz.underlying26 rfl (by kernel_rfl) ?_)
    | (refine wpList_load_row rfl 26 (.tmp 8) rfl g8 rfl 26 #[I (Q 0),I (Q 1),I (Q 2),I (Q 3),I (Q 4),I (Q 5),I (Q 6),I (Q 7)] (0,0) _ (un HQ3) Tryz.underlying26 rfl (by kernel_rfl) ?_)
    | (go_at_call 175;go_must(refine(un HMC _ rfl).mono ?_;rintro e w4 ⟨rfl,hb⟩;have HP4:=zAb (((un HP3).alloc _).later hb);have HO4:=zAb (((un HO3).alloc _).later hb);have HR4:=zAb (((un HR3).alloc _).later hb);have HB4:Hid (Bw w w4):=((un HB3).alloc (un HB3).size _).trans (hb.mono ((un HB3).alloc (un HB3).size _).size);clear hb))
    | (refine zAn 26 8 zCw rfl (.tmp 5) (.tmp 31) rfl g5 #[I (P 0),I (P 1),I (P 2),I (P 3),I (P 4),I (P 5),I (P 6),I (P 7)] #[I (R 0),I (R 1),I (R 2),I (R 3),I (R 4),I (R 5),I (R 6),I (R 7)] rfl rfl rfl rfl (un HP4) (by kernel_rfl) ?_))
   have HP5:=zAb ((un HP4).setRow #[I (R 0),I (R 1),I (R 2),I (R 3),I (R 4),I (R 5),I (R 6),I (R 7)]);have HO5:=zAb ((un HO4).otherRow (us:=#[I (R 0),I (R 1),I (R 2),I (R 3),I (R 4),I (R 5),I (R 6),I (R 7)]) (show ¬g5=w.heap.size+1 by have:=un HG5;omega));have HR5:=zAb ((un HR4).otherRow (us:=#[I (R 0),I (R 1),I (R 2),I (R 3),I (R 4),I (R 5),I (R 6),I (R 7)]) (show ¬g5=w.heap.size+1+1 by have:=un HG5;omega));have HB5:Hid (Bw w (w4.setRow g5 #[I (R 0),I (R 1),I (R 2),I (R 3),I (R 4),I (R 5),I (R 6),I (R 7)])):=below_setRow (un HB4) (by have:=un HG5;omega) _;have HP6:Hid (zAc (w4.setRow g5 #[I (R 0),I (R 1),I (R 2),I (R 3),I (R 4),I (R 5),I (R 6),I (R 7)]) g5 26 #[I (prD ev (k+1) 0),I (prD ev (k+1) 1),I (prD ev (k+1) 2),I (prD ev (k+1) 3),I (prD ev (k+1) 4),I (prD ev (k+1) 5),I (prD ev (k+1) 6),I (prD ev (k+1) 7)]):=by rw[←un HRR];exact HP5
   go_wp2_with fail
   go_roundw
   case rel=>exact⟨k+1,by omega,by go_num,HP6,HO5,HR5,HB5⟩
   case measure=>simp[intOf];omega
  ·have hkI:¬(k:Int)<8:=by omega
   have HK:Hid (k=8):=by show k=8;omega
   have HP8:Hid (zAc wr g5 26 #[I (ev 0),I (ev 1),I (ev 2),I (ev 3),I (ev 4),I (ev 5),I (ev 6),I (ev 7)]):=by have h:=un HP;rw[un HK]at h;exact h
   go_wp2_with (first
    | (refine wpList_load_row rfl 26 (.tmp 5) rfl g5 rfl 26 #[I (ev 0),I (ev 1),I (ev 2),I (ev 3),I (ev 4),I (ev 5),I (ev 6),I (ev 7)] (0,0) _ (un HP8) Tryz.underlying26 rfl (by kernel_rfl) ?_)
    | (refine zAn 26 8 zCw rfl (.tmp 4) (.tmp 34) rfl (w.heap.size+1+1) #[I 0,I 0,I 0,I 0,I 0,I 0,I 0,I 0] #[I (ev 0),I (ev 1),I (ev 2),I (ev 3),I (ev 4),I (ev 5),I (ev 6),I (ev 7)] rfl rfl rfl rfl (un HR) (by kernel_rfl) ?_))
   exact bodyPost_ret (v:=.agg #[I (ev 0),I (ev 1),I (ev 2),I (ev 3),I (ev 4),I (ev 5),I (ev 6),I (ev 7)]) (res26 Tryz.results230 _ _ (w.heap.size+1+1) _ rfl rfl ((un HR).setRow _)) rfl ⟨rfl,below_setRow (un HB) (by omega) _⟩
theorem one_pow (n:Nat):(1:Rat) ^ n=1:=by
  induction n with
  | zero=>rfl
  | succ n ih=>rw[Rat.pow_succ,ih];decide +kernel
theorem pw_one (j:Int):Cub.pw 1 j=1:=by
  unfold Cub.pw
  split
  · rw[show(1:Rat)⁻¹=1 from by decide +kernel];exact one_pow _
  · exact one_pow _
theorem pow_ones (j:Int) (w:World) (h1:-99≤j) (h2:j≤99) (htab:Tab w):Ans 176 #[.agg #[G #[49],G #[49]],I j] w ⟨#[49]⟩ ⟨#[49]⟩ 0 :=
  zFb (rpow_ok _ _ 1 j w zAz (by omega) (by omega) (by decide +kernel) (by rw[pw_one];exact zAz.1) htab) (pw_one j) zAz
theorem parts_fac:∀k:Nat,k<8→zCr[k*15+10]?=some (G #[49])∧zCr[k*15+10+1]?=some (G #[49])
  | 0,_=>⟨by kernel_rfl,by kernel_rfl⟩
  | 1,_=>⟨by kernel_rfl,by kernel_rfl⟩
  | 2,_=>⟨by kernel_rfl,by kernel_rfl⟩
  | 3,_=>⟨by kernel_rfl,by kernel_rfl⟩
  | 4,_=>⟨by kernel_rfl,by kernel_rfl⟩
  | 5,_=>⟨by kernel_rfl,by kernel_rfl⟩
  | 6,_=>⟨by kernel_rfl,by kernel_rfl⟩
  | 7,_=>⟨by kernel_rfl,by kernel_rfl⟩
  | _+8,h=>absurd h (by omega)
theorem amtFac (ev:Nat→Int) (n d:Int) (an ad bn bd fn fd:ByteArray) (w:World) (htab:Tab w) (hE:∀j,-99≤ev j∧ev j≤99)
    (hoa:∀W,Below w.heap.size w W→Calls Tryz.prog 103 #[I n] W fun r w'=>r=.returned (.agg #[.string an,.string ad])∧Bw W w')
    (hob:∀W,Below w.heap.size w W→Calls Tryz.prog 103 #[I d] W fun r w'=>r=.returned (.agg #[.string bn,.string bd])∧Bw W w')
    (hqu:∀W,Below w.heap.size w W→Calls Tryz.prog 31 #[.agg #[.string an,.string ad],.agg #[.string bn,.string bd]] W fun r w'=>r=.returned (.tuple #[.agg #[.string fn,.string fd],I 0])∧Bw W w')
    (hmu:∀W,Below w.heap.size w W→Calls Tryz.prog 28 #[.agg #[.string fn,.string fd],.agg #[G #[49],G #[49]]] W fun r w'=>r=.returned (.tuple #[.agg #[.string fn,.string fd],I 0])∧Bw W w') :
    Calls Tryz.prog 231 #[.agg (J (ev 0) (ev 1) (ev 2) (ev 3) (ev 4) (ev 5) (ev 6) (ev 7) n d),.agg zCr] w fun r w'=>r=.returned (.agg #[.string fn,.string fd])∧Bw w w':=by
  obtain⟨pa,hpa⟩:∃pa,pa=zCr:=⟨_,rfl⟩;have HPF:Hid (∀k:Nat,k<8→pa[k*15+10]?=some (G #[49])∧pa[k*15+10+1]?=some (G #[49])):=by rw[hpa];exact parts_fac
  rw[←hpa];clear hpa;obtain⟨V,hV⟩:∃V,V=((w.alloc (.cells (J (ev 0) (ev 1) (ev 2) (ev 3) (ev 4) (ev 5) (ev 6) (ev 7) n d) 180)).alloc (.cells pa 186)).alloc (.cells #[G #[],G #[]] 28):=⟨_,rfl⟩;have HB:Hid (Bw w V):=by rw[hV];exact(bA.alloc (by simp) _).alloc (by simp;omega) _
  have HP:Hid (zAc V w.heap.size 180 (J (ev 0) (ev 1) (ev 2) (ev 3) (ev 4) (ev 5) (ev 6) (ev 7) n d)):=by rw[hV];exact((zAc.new _ _ _).alloc _).alloc _
  have HO:Hid (zAc V (w.heap.size+1) 186 pa):=by rw[hV];have h:=zAc.new (w.alloc (.cells (J (ev 0) (ev 1) (ev 2) (ev 3) (ev 4) (ev 5) (ev 6) (ev 7) n d) 180)) pa 186;rw[Dm.size_alloc]at h;exact h.alloc _
  have HR:Hid (T2 V (w.heap.size+1+1) (G #[]) (G #[])):=by
    rw[hV];have h:=zAc.new ((w.alloc (.cells (J (ev 0) (ev 1) (ev 2) (ev 3) (ev 4) (ev 5) (ev 6) (ev 7) n d) 180)).alloc (.cells pa 186)) #[G #[],G #[]] 28;rw[Dm.size_alloc,Dm.size_alloc]at h;exact⟨h.ub.c 0 _ rfl,h.ub.c 1 _ rfl,h.ub.f 0 _ rfl,h.ub.f 1 _ rfl⟩
  have HPO:Hid (∀k W,Below w.heap.size w W→Ans 176 #[.agg #[G #[49],G #[49]],I (ev k)] W ⟨#[49]⟩ ⟨#[49]⟩ 0):=fun k W h=>pow_ones (ev k) W (hE k).1 (hE k).2 (htab.later h)
  unfold Ans at HPO
  have HMU:=zAb hmu;have HV:=zAb hV;have HOA:=zAb hoa;have HOB:=zAb hob;have HQU:=zAb hqu;clear hoa hob hqu hmu htab hE;go_enter Tryz.func231,Tryz.ntmps231
  go_upto_region 1 with fail
  rw[←un HV];clear hV HV;have t0:V.cell? ⟨w.heap.size,8,none⟩=some (I n):=(un HP).ub.c 8 _ rfl;have t1:V.cell? ⟨w.heap.size,9,none⟩=some (I d):=(un HP).ub.c 9 _ rfl;have HC0:Hid (Bw V V.drew):=(Below.refl _ _).drew;have HUP:Hid (∀W,Below V.heap.size V W→Below w.heap.size w W):=fun W h=>bt HB h
  have HUA:Hid (∀W O,Below V.heap.size V W→Below w.heap.size w (W.alloc O)):=fun W O h=>(un HB).trans ((h.alloc h.size O).mono (un HB).size)
  have HUD:Hid (∀O,Below w.heap.size w (V.alloc O).drew):=fun O=>((un HB).alloc (un HB).size O).drew
  have hv0:=(un HP).lt
  go_region_held3 (fun w'=>w'.cell? ⟨w.heap.size,8,none⟩=some (I n)∧w'.cell? ⟨w.heap.size,9,none⟩=some (I d)) (first|assumption|(simp[go_sem, *];done)) ((first
    | (go_at_call_of 103 n;go_must(refine(un HOA _ (by first|exact un HUP _ (un HC0)|exact un HUA _ _ (un HC0)|exact un HUD _)).mono ?_;rintro e wa ⟨rfl,hb⟩;have HCwa:Hid (Bw V wa):=(by first|exact bt HC0 hb|exact zCs (un HC0) hb|exact zBw hb);(first|(have HZwa:=zAb ((un HZ0).later hb);clear u0 u1 uf0 uf1;have u0:=(un HZwa).c0;have u1:=(un HZwa).c1;have uf0:=(un HZwa).f0;have uf1:=(un HZwa).f1)|(have HZwa:Hid (T2 wa V.heap.size (G #[]) (G #[])):=(by first|exact T2.past hb|exact T2.pastD hb);have u0:=(un HZwa).c0;have u1:=(un HZwa).c1;have uf0:=(un HZwa).f0;have uf1:=(un HZwa).f1)|skip);clear hb t0 t1;have t0:wa.cell? ⟨w.heap.size,8,none⟩=some (I n):=((un HP).later (un HCwa)).ub.c 8 _ rfl;have t1:wa.cell? ⟨w.heap.size,9,none⟩=some (I d):=((un HP).later (un HCwa)).ub.c 9 _ rfl;have hvwa:=((un HP).later (un HCwa)).lt))
    | (go_at_call_of 103 d;go_must(refine(un HOB _ (by first|exact un HUP _ (un HCwa)|exact un HUA _ _ (un HCwa)|exact un HUD _)).mono ?_;rintro e wb ⟨rfl,hb⟩;have HCwb:Hid (Bw V wb):=(by first|exact bt HCwa hb|exact zCs (un HCwa) hb|exact zBw hb);(first|(have HZwb:=zAb ((un HZwa).later hb);clear u0 u1 uf0 uf1;have u0:=(un HZwb).c0;have u1:=(un HZwb).c1;have uf0:=(un HZwb).f0;have uf1:=(un HZwb).f1)|(have HZwb:Hid (T2 wb wa.heap.size (G #[]) (G #[])):=(by first|exact T2.past hb|exact T2.pastD hb);have u0:=(un HZwb).c0;have u1:=(un HZwb).c1;have uf0:=(un HZwb).f0;have uf1:=(un HZwb).f1)|skip);clear hb t0 t1;have t0:wb.cell? ⟨w.heap.size,8,none⟩=some (I n):=((un HP).later (un HCwb)).ub.c 8 _ rfl;have t1:wb.cell? ⟨w.heap.size,9,none⟩=some (I d):=((un HP).later (un HCwb)).ub.c 9 _ rfl;have hvwb:=((un HP).later (un HCwb)).lt))
    | (go_at_call 31;go_must(refine(un HQU _ (by first|exact un HUP _ (un HCwb)|exact un HUA _ _ (un HCwb)|exact un HUD _)).mono ?_;rintro e wc ⟨rfl,hb⟩;have HCwc:Hid (Bw V wc):=(by first|exact bt HCwb hb|exact zCs (un HCwb) hb|exact zBw hb);(first|(have HZwc:=zAb ((un HZwb).later hb);clear u0 u1 uf0 uf1;have u0:=(un HZwc).c0;have u1:=(un HZwc).c1;have uf0:=(un HZwc).f0;have uf1:=(un HZwc).f1)|(have HZwc:Hid (T2 wc wb.heap.size (G #[]) (G #[])):=(by first|exact T2.past hb|exact T2.pastD hb);have u0:=(un HZwc).c0;have u1:=(un HZwc).c1;have uf0:=(un HZwc).f0;have uf1:=(un HZwc).f1)|skip);clear hb t0 t1;have t0:wc.cell? ⟨w.heap.size,8,none⟩=some (I n):=((un HP).later (un HCwc)).ub.c 8 _ rfl;have t1:wc.cell? ⟨w.heap.size,9,none⟩=some (I d):=((un HP).later (un HCwc)).ub.c 9 _ rfl;have hvwc:=((un HP).later (un HCwc)).lt))))
  all_goals
    first
    | (obtain⟨X,hX⟩:∃X,X=wc.heap.size:=⟨_,rfl⟩
       have HNX:Hid (¬X=w.heap.size+1∧¬X=w.heap.size+1+1∧w.heap.size≤X):=(by have h1:=((un HR).later (un HCwc)).lt;rw[hX];show _∧_;omega);obtain⟨U,hU⟩:∃U,U=wc.alloc (.cells #[.string fn,.string fd] 28):=⟨_,rfl⟩
       have HF:Hid (T2 U X (.string fn) (.string fd)∧T2 U (w.heap.size+1+1) (G #[]) (G #[])∧Bw w U∧zAc U w.heap.size 180 (J (ev 0) (ev 1) (ev 2) (ev 3) (ev 4) (ev 5) (ev 6) (ev 7) n d)∧zAc U (w.heap.size+1) 186 pa):=by
         rw[hU,hX];exact⟨⟨by simp[go_sem],by simp[go_sem],by simp[go_sem],by simp[go_sem]⟩,((un HR).later (un HCwc)).later bA,un HUA _ _ (un HCwc),((un HP).later (un HCwc)).alloc _,((un HO).later (un HCwc)).alloc _⟩
       rw[←hU,←hX];clear hU hX)
    | (obtain⟨X,hX⟩:∃X,X=wb.heap.size:=⟨_,rfl⟩
       have HNX:Hid (¬X=w.heap.size+1∧¬X=w.heap.size+1+1∧w.heap.size≤X):=(by have h1:=((un HR).later (un HCwb)).lt;rw[hX];show _∧_;omega);obtain⟨U,hU⟩:∃U,U=(wc.setCell { block:=wb.heap.size,off:=0 } (.string fn)).setCell { block:=wb.heap.size,off:=1 } (.string fd):=⟨_,rfl⟩
       have HF:Hid (T2 U X (.string fn) (.string fd)∧T2 U (w.heap.size+1+1) (G #[]) (G #[])∧Bw w U∧zAc U w.heap.size 180 (J (ev 0) (ev 1) (ev 2) (ev 3) (ev 4) (ev 5) (ev 6) (ev 7) n d)∧zAc U (w.heap.size+1) 186 pa):=by
         rw[hU,hX];have h1:=((un HR).later (un HCwb)).lt;exact⟨(un HZwc).store _ _,((un HR).later (un HCwc)).otherP wb.heap.size (by omega) _ _,zAk (un HUP _ (un HCwc)) (by omega) _ _,(((un HP).later (un HCwc)).otherSet (by omega) _ _).otherSet (by omega) _ _,(((un HO).later (un HCwc)).otherSet (by omega) _ _).otherSet (by omega) _ _⟩
       rw[←hU,←hX];clear hU hX)
    | (obtain⟨X,hX⟩:∃X,X=wa.heap.size:=⟨_,rfl⟩
       have HNX:Hid (¬X=w.heap.size+1∧¬X=w.heap.size+1+1∧w.heap.size≤X):=(by have h1:=((un HR).later (un HCwa)).lt;rw[hX];show _∧_;omega);obtain⟨U,hU⟩:∃U,U=(wc.setCell { block:=wa.heap.size,off:=0 } (.string fn)).setCell { block:=wa.heap.size,off:=1 } (.string fd):=⟨_,rfl⟩
       have HF:Hid (T2 U X (.string fn) (.string fd)∧T2 U (w.heap.size+1+1) (G #[]) (G #[])∧Bw w U∧zAc U w.heap.size 180 (J (ev 0) (ev 1) (ev 2) (ev 3) (ev 4) (ev 5) (ev 6) (ev 7) n d)∧zAc U (w.heap.size+1) 186 pa):=by
         rw[hU,hX];have h1:=((un HR).later (un HCwa)).lt;exact⟨(un HZwc).store _ _,((un HR).later (un HCwc)).otherP wa.heap.size (by omega) _ _,zAk (un HUP _ (un HCwc)) (by omega) _ _,(((un HP).later (un HCwc)).otherSet (by omega) _ _).otherSet (by omega) _ _,(((un HO).later (un HCwc)).otherSet (by omega) _ _).otherSet (by omega) _ _⟩
       rw[←hU,←hX];clear hU hX)
    | (obtain⟨X,hX⟩:∃X,X=V.heap.size:=⟨_,rfl⟩
       have HNX:Hid (¬X=w.heap.size+1∧¬X=w.heap.size+1+1∧w.heap.size≤X):=(by have h1:=(un HR).lt;rw[hX];show _∧_;omega);obtain⟨U,hU⟩:∃U,U=(wc.setCell { block:=V.heap.size,off:=0 } (.string fn)).setCell { block:=V.heap.size,off:=1 } (.string fd):=⟨_,rfl⟩
       have HF:Hid (T2 U X (.string fn) (.string fd)∧T2 U (w.heap.size+1+1) (G #[]) (G #[])∧Bw w U∧zAc U w.heap.size 180 (J (ev 0) (ev 1) (ev 2) (ev 3) (ev 4) (ev 5) (ev 6) (ev 7) n d)∧zAc U (w.heap.size+1) 186 pa):=by
         rw[hU,hX];have h1:=(un HR).lt;exact⟨(un HZwc).store _ _,((un HR).later (un HCwc)).otherP V.heap.size (by omega) _ _,zAk (un HUP _ (un HCwc)) (by omega) _ _,(((un HP).later (un HCwc)).otherSet (by omega) _ _).otherSet (by omega) _ _,(((un HO).later (un HCwc)).otherSet (by omega) _ _).otherSet (by omega) _ _⟩
       rw[←hU,←hX];clear hU hX)
  all_goals
    obtain⟨hX1,hR1,hB1,hA1,hO1⟩:=un HF;have HXX:=zAb hX1;have HRR:=zAb hR1;have HBB:=zAb hB1;have HOO:=zAb hO1;have a0:U.cell? ⟨w.heap.size,0,none⟩=some (I (ev 0)):=hA1.ub.c 0 _ rfl;have a1:U.cell? ⟨w.heap.size,1,none⟩=some (I (ev 1)):=hA1.ub.c 1 _ rfl;have a2:U.cell? ⟨w.heap.size,2,none⟩=some (I (ev 2)):=hA1.ub.c 2 _ rfl;have a3:U.cell? ⟨w.heap.size,3,none⟩=some (I (ev 3)):=hA1.ub.c 3 _ rfl;have a4:U.cell? ⟨w.heap.size,4,none⟩=some (I (ev 4)):=hA1.ub.c 4 _ rfl;have a5:U.cell? ⟨w.heap.size,5,none⟩=some (I (ev 5)):=hA1.ub.c 5 _ rfl;have a6:U.cell? ⟨w.heap.size,6,none⟩=some (I (ev 6)):=hA1.ub.c 6 _ rfl;have a7:U.cell? ⟨w.heap.size,7,none⟩=some (I (ev 7)):=hA1.ub.c 7 _ rfl;clear HF hX1 hR1 hB1 hA1 hO1
    go_upto_region 3 with fail
    clear a0 a1 a2 a3 a4 a5 a6 a7
    go_loopw [23] (fun s23 wr=>∃(k:Nat),k≤8∧s23=I (k:Int)∧Hid (T2 wr X (.string fn) (.string fd))∧Hid (T2 wr (w.heap.size+1+1) (G #[]) (G #[]))∧Hid (Bw w wr)∧Hid (zAc wr (w.heap.size+1) 186 pa)) (fun s23 _=>8 - (intOf s23).toNat)
    case atStart=>exact⟨0,by omega,rfl,HXX,HRR,HBB,HOO⟩
    case round=>
      clear HXX HRR HBB HOO;obtain⟨k,hk,rfl,HX1,HR1,HB1,HO1⟩:=hrel
      by_cases hlt:k<8
      · have hkI:(k:Int)<8:=by omega
        have hk0:(0:Int)≤(k:Int):=by omega
        have hix:=evIx ev k hlt;have p0:=(un HO1).ub.c _ _ (un HPF k hlt).1;have p1:=(un HO1).ub.c _ _ (un HPF k hlt).2;have HPK:=zAb (un HPO k);generalize ev k=ek at *
        go_upto_region 6 with (go_at_call 176;go_must(refine(un HPK _ (un HB1)).mono ?_;rintro e w2 ⟨rfl,hb⟩;have HX2:=zAb ((un HX1).later hb);have HR2:=zAb ((un HR1).later hb);have HO2:=zAb ((un HO1).later hb);have HB2:Hid (Bw w w2):=bt HB1 hb;clear hb p0 p1))
        clear hix HX1 HR1 HO1 HB1;obtain⟨V3,hV3⟩:∃V3,V3=w2.alloc (.cells #[G #[49],G #[49]] 28):=⟨_,rfl⟩;have hb3:Below w2.heap.size w2 V3:=by rw[hV3];exact bA
        have HY3:Hid (T2 V3 w2.heap.size (G #[49]) (G #[49])):=by rw[hV3];exact⟨by simp[go_sem],by simp[go_sem],by simp[go_sem],by simp[go_sem]⟩
        have HX3:=zAb ((un HX2).later hb3);have HR3:=zAb ((un HR2).later hb3);have HO3:=zAb ((un HO2).later hb3);have HB3:Hid (Bw w V3):=bt HB2 hb3;rw[←hV3];clear hV3 hb3 HX2 HR2 HO2 HB2;generalize w2.heap.size=g9 at *
        have x0:=(un HX3).c0;have x1:=(un HX3).c1;have y0:=(un HY3).c0;have y1:=(un HY3).c1
        go_wp2_with (go_at_call 28;go_must(refine(un HMU _ (un HB3)).mono ?_;rintro e w4 ⟨rfl,hb⟩;have HX4:=zAb ((un HX3).later hb);have HR4:=zAb ((un HR3).later hb);have HO4:=zAb ((un HO3).later hb);have HB4:Hid (Bw w w4):=bt HB3 hb;clear hb x0 x1 y0 y1;have x0:=(un HX4).c0;have x1:=(un HX4).c1;have xf0:=(un HX4).f0;have xf1:=(un HX4).f1))
        have HX5:Hid (T2 ((w4.setCell ⟨X,0,none⟩ (.string fn)).setCell ⟨X,1,none⟩ (.string fd)) X (.string fn) (.string fd)):=(un HX4).store _ _;have HR5:Hid (T2 ((w4.setCell ⟨X,0,none⟩ (.string fn)).setCell ⟨X,1,none⟩ (.string fd)) (w.heap.size+1+1) (G #[]) (G #[])):=(un HR4).otherP X (un HNX).2.1 _ _;have HO5:Hid (zAc ((w4.setCell ⟨X,0,none⟩ (.string fn)).setCell ⟨X,1,none⟩ (.string fd)) (w.heap.size+1) 186 pa):=((un HO4).otherSet (fun h=>(un HNX).1 h.symm) _ _).otherSet (fun h=>(un HNX).1 h.symm) _ _;have HB5:Hid (Bw w ((w4.setCell ⟨X,0,none⟩ (.string fn)).setCell ⟨X,1,none⟩ (.string fd))):=zAk (un HB4) (un HNX).2.2 _ _
        go_roundw
        case rel=>exact⟨k+1,by omega,by go_num,HX5,HR5,HB5,HO5⟩
        case measure=>simp[intOf];omega
      · have hkI:¬(k:Int)<8:=by omega
        have x0:=(un HX1).c0;have x1:=(un HX1).c1;have r0:=(un HR1).c0;have r1:=(un HR1).c1;have rf0:=(un HR1).f0;have rf1:=(un HR1).f1
        go_wp2_with fail
        have hS:=(un HR1).store (.string fn) (.string fd);have hb:=zAk (un HB1) (by omega) (.string fn) (.string fd) (g:=w.heap.size+1+1);have v0:=hS.c0;have v1:=hS.c1;exact bodyPost_ret (v:=.agg #[.string fn,.string fd]) (w:=zBh wr (w.heap.size+1+1) (.string fn) (.string fd)) (by simp[results,Tryz.results231,go_sem,v0,v1]) rfl ⟨rfl,hb⟩
end Go.Proofs.YtliadckofhblnaaGreatDoor

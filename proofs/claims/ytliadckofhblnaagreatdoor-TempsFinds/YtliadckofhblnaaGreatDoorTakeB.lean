/- A row by one more limb. -/
import Derived.Test.YtliadckofhblnaaGreatDoorAdd
import Derived.Lib.ParseIntB
import GoSem.Op.String
import Derived.Deep.QuietTactic
import Derived.BigQuiet
import Derived.Deep.Cut
import Derived.WalkSmall
import Derived.Deep.RegionHeld3
set_option maxHeartbeats 2000000
set_option maxRecDepth 100000
namespace Cub
structure TakeInv (T:Nat) (F0 L F:List Nat) (m i:Nat):Prop where
 len:F.length=F0.length
 lim:limbs 1000000000 F
 val:lval 1000000000 F+T*lval 1000000000 (L.take i)=lval 1000000000 F0+1000000000 ^ i*m
 miss:m≤T
theorem TakeInv.start {T:Nat} {F0:List Nat} (L:List Nat) (h:limbs 1000000000 F0):TakeInv T F0 L F0 0 0:=⟨rfl,h,by simp[lval],Nat.zero_le _⟩
theorem take9 (l:List Nat) (i:Nat):lval 1000000000 (l.take (i+1))=lval 1000000000 (l.take i)+1000000000 ^ i*l.getD i 0:=by
 by_cases h:i<l.length
 ·rw[List.take_succ_eq_append_getElem h,lval_snoc,List.length_take,Nat.min_eq_left (by omega)]
  simp[List.getD,h]
 ·rw[List.take_of_length_le (by omega),List.take_of_length_le (by omega)]
  simp[List.getD,Nat.le_of_not_lt h]
theorem TakeInv.step {T:Nat} {F0 L F:List Nat} {m i q d b:Nat} (h:TakeInv T F0 L F m i) (hi:i<F.length) (hq:q=m+T*L.getD i 0) (hd:d<1000000000) (_hb:b≤1)
 (he:d+q % 1000000000=F[i]+1000000000*b) (hb0:q % 1000000000=0→b=0) (hL:L.getD i 0<1000000000):TakeInv T F0 L (F.set i d) (q / 1000000000+b) (i+1):=by
 refine⟨by simp[h.len],limbs_set h.lim i _ hd,?_,?_⟩
 ·have e1:=lval_set 1000000000 F i d hi
  have e2:=h.val;rw[take9,Nat.mul_add,Nat.pow_succ];have e3:q=1000000000*(q / 1000000000)+q % 1000000000:=(Nat.div_add_mod _ _).symm;have e4:=congrArg (1000000000 ^ i*·) he;have e5:=congrArg (1000000000 ^ i*·) e3;have e6:=congrArg (1000000000 ^ i*·) hq;simp only[Nat.mul_add]at e4 e5 e6;have m1:T*(1000000000 ^ i*L.getD i 0)=1000000000 ^ i*(T*L.getD i 0):=by rw[Nat.mul_left_comm]
  have m2:1000000000 ^ i*1000000000*(q / 1000000000+b)=1000000000 ^ i*(1000000000*(q / 1000000000))+1000000000 ^ i*(1000000000*b):=by
   rw[Nat.mul_assoc,←Nat.mul_add,←Nat.mul_add]
  omega
 ·have h1:=h.miss
  have h2:T*L.getD i 0≤T*999999999:=Nat.mul_le_mul_left _ (by omega);have h3:q≤1000000000*T:=by omega
  by_cases h0:q % 1000000000=0
  ·rw[hb0 h0];omega
  ·omega
end Cub
namespace Go.Proofs.YtliadckofhblnaaGreatDoor
open Go.RowKit
theorem Own.below {w w':World} {g g':Nat} {l:List Nat} (h:Own w g' l) (hb:Below g w w') (hg:g'<g):Own w' g' l:=(hb.block g' hg).trans h
theorem takeAway_any (g n cap:Nat) (F0 L:List Nat) (ab:Option Addr) (nb cb T:Nat) (w:World) (hF:Own w g F0) (hn:n=F0.length) (hn1:n≤10000000) (hlF:Cub.limbs 1000000000 F0)
 (hnb:nb=L.length) (hnbn:nb≤n) (hlL:Cub.limbs 1000000000 L) (hcap:n≤cap) (hT:T<1000000000) (hc:∀W,Below g w W→∀i (hi:i<L.length),∃b o,ab=some ⟨b,o,none⟩∧W.cell? ⟨b,o+i,none⟩=some (.int .u64 (L[i]:Int))) :
 Calls Tryz.prog 259 #[.slice (some ⟨g,0,none⟩) n cap,.slice ab nb cb,.int .u64 (T:Int)] w fun e w'=>∃(m:Nat) (F:List Nat),e=.returned (.int .u64 (m:Int))∧Own w' g F∧F.length=n∧Cub.limbs 1000000000 F∧Cub.lval 1000000000 F+T*Cub.lval 1000000000 L=Cub.lval 1000000000 F0+1000000000 ^ n*m∧m≤T∧Below g w w':=by
 have HN:=zAb (And.intro hn hnb);have HC:=zAb hc;have HL:=zAb (And.intro hlF hlL);have HF:=zAb hF;clear hn hnb hc hlF hlL hF;go_enter Tryz.func259,Tryz.ntmps259
 go_wp2
 go_loopw [7,12] (fun c t wr=>∃(m i:Nat) (F:List Nat),c=.int .u64 (m:Int)∧t=I (i:Int)∧i≤n∧m≤T∧Hid (Cub.TakeInv T F0 L F m i)∧Hid (Own wr g F)∧Hid (Below g w wr)) (fun _ t _=>n - (intOf t).toNat)
 case atStart=>exact⟨0,0,F0,rfl,rfl,by omega,by omega,Cub.TakeInv.start L (un HL).1,HF,Below.refl _ _⟩
 case round=>
  obtain⟨m,i,F,rfl,rfl,hi,hm,HI,HO,HB⟩:=hrel;have hFl:Hid (F.length=n):=by rw[(un HI).len];exact(un HN).1.symm
  by_cases hin:i<n
  ·by_cases hbrk:nb≤i∧m=0
   ·obtain⟨h1,rfl⟩:=hbrk
    have HV:Hid (Cub.lval 1000000000 F+T*Cub.lval 1000000000 L=Cub.lval 1000000000 F0+1000000000 ^ n*0):=by
     have h:=(un HI).val;rw[List.take_of_length_le (by have:=(un HN).2;omega)]at h;rw[Nat.mul_zero]at h ⊢;exact h
    go_wp2
    go_ret
    exact⟨0,F,rfl,un HO,un hFl,(un HI).lim,un HV,by omega,un HB⟩
   ·have hiF:i<F.length:=by rw[un hFl];exact hin
    obtain⟨f,hf⟩:∃f,f=F[i]:=⟨_,rfl⟩;have hfB:f<1000000000:=by rw[hf];exact(un HI).lim _ (List.getElem_mem hiF)
    have hcf:=(un HO).cell i hiF;rw[←hf]at hcf;have hff:=(un HO).frozen i;have HFv:=zAb hf;obtain⟨lv,hlv⟩:∃lv,lv=L.getD i 0:=⟨_,rfl⟩
    have hlB:lv<1000000000:=by
     rw[hlv]
     by_cases h:i<L.length
     ·simp only[List.getD,List.getElem?_eq_getElem h,Option.getD_some];exact(un HL).2 _ (List.getElem_mem h)
     ·simp[List.getD,Nat.le_of_not_lt h]
    have HLB:Hid (L.getD i 0<1000000000):=by rw[←hlv];exact hlB
    by_cases hib:i<nb
    ·have hiL:i<L.length:=by have:=(un HN).2;omega
     obtain⟨b,o,rfl,hcl⟩:=un HC wr (un HB) i hiL;rw[show L[i]=lv by rw[hlv,List.getD_eq_getElem?_getD,List.getElem?_eq_getElem hiL];rfl]at hcl;obtain⟨pr,hpr⟩:∃pr,pr=T*lv:=⟨_,rfl⟩;have hprB:pr≤999999998000000001:=by rw[hpr];exact Nat.mul_le_mul (show T≤999999999 by omega) (show lv≤999999999 by omega)
     have hmul:(T:Int)*(lv:Int)=(pr:Int):=by rw[hpr];simp
     have HQ:Hid (m+pr=m+T*L.getD i 0):=by rw[hpr,←hlv];exact rfl
     clear hf hlv hpr hbrk
     by_cases hbor:f<(m+pr) % 1000000000
     ·have HI':Hid (Cub.TakeInv T F0 L (F.set i (f+1000000000 - (m+pr) % 1000000000)) ((m+pr) / 1000000000+1) (i+1)) :=
      (un HI).step hiF (un HQ) (by omega) (by omega) (by rw[←un HFv];omega) (by omega) (un HLB)
      have HO':Hid (Own ((wr.setCell ⟨g,i,none⟩ (.int .u64 ((f:Int)+1000000000))).setCell ⟨g,i,none⟩ (.int .u64 ((f:Int)+1000000000 - ((m:Int)+(pr:Int)) % 1000000000))) g (F.set i (f+1000000000 - (m+pr) % 1000000000))):=by
       have h:=((un HO).set i (f+1000000000)).set i (f+1000000000 - (m+pr) % 1000000000);rw[List.set_set]at h;rw[show((f+1000000000:Nat):Int)=(f:Int)+1000000000 by omega,show((f+1000000000 - (m+pr) % 1000000000:Nat):Int)=(f:Int)+1000000000 - ((m:Int)+(pr:Int)) % 1000000000 by omega]at h;exact h
      have HB':Hid (Below g w ((wr.setCell ⟨g,i,none⟩ (.int .u64 ((f:Int)+1000000000))).setCell ⟨g,i,none⟩ (.int .u64 ((f:Int)+1000000000 - ((m:Int)+(pr:Int)) % 1000000000)))):=((un HB).setCell (Nat.le_refl _) _).setCell (Nat.le_refl _) _;have hbi:(f:Int)<((m:Int)+(pr:Int)) % 1000000000:=by omega
      clear HI HO HB
      go_wp2
      go_roundw
      case rel=>exact⟨(m+pr) / 1000000000+1,i+1,_,by go_num,by go_num,by omega,(un HI').miss,HI',HO',HB'⟩
      case measure=>simp[intOf];omega
     ·have HI':Hid (Cub.TakeInv T F0 L (F.set i (f - (m+pr) % 1000000000)) ((m+pr) / 1000000000+0) (i+1)) :=
      (un HI).step hiF (un HQ) (by omega) (by omega) (by rw[←un HFv];omega) (fun _=>rfl) (un HLB)
      have HO':Hid (Own (wr.setCell ⟨g,i,none⟩ (.int .u64 ((f:Int) - ((m:Int)+(pr:Int)) % 1000000000))) g (F.set i (f - (m+pr) % 1000000000))):=by
       have h:=(un HO).set i (f - (m+pr) % 1000000000);rw[show((f - (m+pr) % 1000000000:Nat):Int)=(f:Int) - ((m:Int)+(pr:Int)) % 1000000000 by omega]at h;exact h
      have HB':Hid (Below g w (wr.setCell ⟨g,i,none⟩ (.int .u64 ((f:Int) - ((m:Int)+(pr:Int)) % 1000000000)))):=(un HB).setCell (Nat.le_refl _) _;have hbi:¬(f:Int)<((m:Int)+(pr:Int)) % 1000000000:=by omega
      clear HI HO HB
      go_wp2
      go_roundw
      case rel=>exact⟨(m+pr) / 1000000000+0,i+1,_,by go_num,by go_num,by omega,(un HI').miss,HI',HO',HB'⟩
      case measure=>simp[intOf];omega
    ·have hm0:0<m:=by omega
     have hl0:lv=0:=by rw[hlv,List.getD_eq_getElem?_getD,List.getElem?_eq_none (by have:=(un HN).2;omega)];rfl
     have HQ:Hid (m=m+T*L.getD i 0):=by rw[←hlv,hl0];exact rfl
     have hmz:((m:Int) == 0)=false:=by rw[beq_eq_false_iff_ne];omega
     clear hf hlv hbrk hl0
     by_cases hbor:f<m % 1000000000
     ·have HI':Hid (Cub.TakeInv T F0 L (F.set i (f+1000000000 - m % 1000000000)) (m / 1000000000+1) (i+1)) :=
      (un HI).step hiF (un HQ) (by omega) (by omega) (by rw[←un HFv];omega) (by omega) (un HLB)
      have HO':Hid (Own ((wr.setCell ⟨g,i,none⟩ (.int .u64 ((f:Int)+1000000000))).setCell ⟨g,i,none⟩ (.int .u64 ((f:Int)+1000000000 - (m:Int) % 1000000000))) g (F.set i (f+1000000000 - m % 1000000000))):=by
       have h:=((un HO).set i (f+1000000000)).set i (f+1000000000 - m % 1000000000);rw[List.set_set]at h;rw[show((f+1000000000:Nat):Int)=(f:Int)+1000000000 by omega,show((f+1000000000 - m % 1000000000:Nat):Int)=(f:Int)+1000000000 - (m:Int) % 1000000000 by omega]at h;exact h
      have HB':Hid (Below g w ((wr.setCell ⟨g,i,none⟩ (.int .u64 ((f:Int)+1000000000))).setCell ⟨g,i,none⟩ (.int .u64 ((f:Int)+1000000000 - (m:Int) % 1000000000)))):=((un HB).setCell (Nat.le_refl _) _).setCell (Nat.le_refl _) _;have hbi:(f:Int)<(m:Int) % 1000000000:=by omega
      clear HI HO HB
      go_wp2
      go_roundw
      case rel=>exact⟨m / 1000000000+1,i+1,_,by go_num,by go_num,by omega,(un HI').miss,HI',HO',HB'⟩
      case measure=>simp[intOf];omega
     ·have HI':Hid (Cub.TakeInv T F0 L (F.set i (f - m % 1000000000)) (m / 1000000000+0) (i+1)) :=
      (un HI).step hiF (un HQ) (by omega) (by omega) (by rw[←un HFv];omega) (fun _=>rfl) (un HLB)
      have HO':Hid (Own (wr.setCell ⟨g,i,none⟩ (.int .u64 ((f:Int) - (m:Int) % 1000000000))) g (F.set i (f - m % 1000000000))):=by
       have h:=(un HO).set i (f - m % 1000000000);rw[show((f - m % 1000000000:Nat):Int)=(f:Int) - (m:Int) % 1000000000 by omega]at h;exact h
      have HB':Hid (Below g w (wr.setCell ⟨g,i,none⟩ (.int .u64 ((f:Int) - (m:Int) % 1000000000)))):=(un HB).setCell (Nat.le_refl _) _;have hbi:¬(f:Int)<(m:Int) % 1000000000:=by omega
      clear HI HO HB
      go_wp2
      go_roundw
      case rel=>exact⟨m / 1000000000+0,i+1,_,by go_num,by go_num,by omega,(un HI').miss,HI',HO',HB'⟩
      case measure=>simp[intOf];omega
  ·have hie:i=n:=by omega
   subst hie
   have HV:Hid (Cub.lval 1000000000 F+T*Cub.lval 1000000000 L=Cub.lval 1000000000 F0+1000000000 ^ i*m):=by
    have h:=(un HI).val;rw[List.take_of_length_le (by have:=(un HN).2;omega)]at h;exact h
   go_wp2
   go_ret
   exact⟨m,F,rfl,un HO,un hFl,(un HI).lim,un HV,hm,un HB⟩
end Go.Proofs.YtliadckofhblnaaGreatDoor
namespace Go.Proofs.YtliadckofhblnaaGreatDoor
open Go.RowKit
theorem splice_all (l:List Nat) (n:Nat) (h:n=l.length):splice (zCx (List.replicate n 0)) 0 (zCx l)=zCx l:=by
 subst h;unfold splice zCx;simp
theorem sub_last {n:Nat} {F lx ly:List Nat} {m:Nat} (hlim:Cub.limbs 1000000000 F) (hl:F.length=n) (h:Cub.lval 1000000000 F+1*Cub.lval 1000000000 ly=Cub.lval 1000000000 lx+1000000000 ^ n*m)
  (hle:Cub.lval 1000000000 ly≤Cub.lval 1000000000 lx):Cub.lval 1000000000 F=Cub.lval 1000000000 lx - Cub.lval 1000000000 ly:=by
 have h1:=Cub.lval_lt hlim;rw[hl]at h1;rcases Nat.eq_zero_or_pos m with h0|h0
 ·subst h0;omega
 ·have:1000000000 ^ n*1≤1000000000 ^ n*m:=Nat.mul_le_mul_left _ h0
  omega
theorem norm9_len_le {x y:List Nat} (hx:Cub.limbs 1000000000 x) (hy:Cub.normal 1000000000 y) (h:Cub.lval 1000000000 y≤Cub.lval 1000000000 x):y.length≤x.length :=
 Cub.len_le hy (Nat.lt_of_le_of_lt h (Cub.lval_lt hx))
end Go.Proofs.YtliadckofhblnaaGreatDoor
namespace Cub
def cmpN (m n:Nat):Int:=if m<n then -1 else if n<m then 1 else 0
theorem toNat_lt_iff (a b:UInt8):a<b↔a.toNat<b.toNat:=UInt8.lt_iff_toNat_lt
theorem bytesLess_dval:∀(a b:List UInt8),digs a→digs b→a.length=b.length→Go.Op.bytesLess a b=decide (dval a<dval b):=by
  intro a
  induction a with
  | nil => intro b _ _ h;have:b=[]:=List.length_eq_zero_iff.1 h.symm
           subst this;rfl
  | cons x a ih=>
    intro b ha hb hl
    cases b with
    | nil=>simp at hl
    | cons y b=>
      have hx:=ha x (by simp)
      have hy:=hb y (by simp)
      have ha':digs a:=fun c hc=>ha c (List.mem_cons_of_mem _ hc)
      have hb':digs b:=fun c hc=>hb c (List.mem_cons_of_mem _ hc)
      have hl':a.length=b.length:=by simpa using hl
      have e:=ih b ha' hb' hl'
      have l1:=dval_lt ha'
      have l2:=dval_lt hb'
      simp only[Go.Op.bytesLess]
      rw[e,dval_cons,dval_cons,←hl']
      rw[←hl']at l2
      rw[Bool.eq_iff_iff]
      simp only[Bool.or_eq_true,Bool.and_eq_true,decide_eq_true_eq,beq_iff_eq,toNat_lt_iff]
      constructor
      · rintro(h|⟨h,h2⟩)
        · have:(x.toNat - 48+1)*10 ^ a.length≤(y.toNat - 48)*10 ^ a.length:=Nat.mul_le_mul_right _ (by omega)
          rw[Nat.add_mul]at this;omega
        · subst h;omega
      · intro h
        by_cases hxy:x.toNat<y.toNat
        · exact Or.inl hxy
        · right
          by_cases he:x.toNat=y.toNat
          · refine⟨?_,?_⟩
            · rw[←ofNat_toNat x,←ofNat_toNat y,he]
            · rw[he]at h;omega
          · exfalso
            have:(y.toNat - 48+1)*10 ^ a.length≤(x.toNat - 48)*10 ^ a.length:=Nat.mul_le_mul_right _ (by omega)
            rw[Nat.add_mul]at this;omega
theorem dval_inj {a b:List UInt8} (ha:isNat a) (hb:isNat b) (h:dval a=dval b):a=b:=by
  rw[←dec_dval _ a rfl ha,←dec_dval _ b rfl hb,h]
theorem len_lt_dval {a b:List UInt8} (ha:isNat a) (hb:isNat b) (h:a.length<b.length):dval a<dval b:=by
  have h1:=dval_lt ha.1
  have h2:0<a.length:=List.length_pos_iff.2 ha.2.1
  have h3:=zJr hb (by omega)
  have h4:10 ^ a.length≤10 ^ (b.length - 1):=Nat.pow_le_pow_right (by decide) (by omega)
  omega
end Cub
namespace Cub
theorem lval_split (B:Nat) (a:List Nat) (j:Nat) (h:j<a.length):lval B a=lval B (a.take j)+B ^ j*(a[j]+B*lval B (a.drop (j+1))):=by
  have e:=lval_append B (a.take j) (a.drop j);rw[List.take_append_drop,List.length_take,Nat.min_eq_left (by omega),List.drop_eq_getElem_cons h]at e;exact e
theorem cmp_at {B:Nat} {a b:List Nat} (ha:limbs B a) (hl:a.length=b.length) (j:Nat) (h:j<a.length) (hd:a.drop (j+1)=b.drop (j+1)) (hlt:a[j]<b[j]):lval B a<lval B b:=by
  rw[lval_split B a j h,lval_split B b j (by omega),hd]
  have h1:lval B (a.take j)<B ^ j:=by
    have:=lval_lt (B:=B) (l:=a.take j) (fun z hz=>ha z (List.mem_of_mem_take hz))
    rwa [List.length_take,Nat.min_eq_left (by omega)]at this
  have h2:B ^ j*(a[j]+B*lval B (b.drop (j+1))+1)≤B ^ j*(b[j]+B*lval B (b.drop (j+1))):=Nat.mul_le_mul_left _ (by omega);rw[Nat.mul_add (B ^ j) (a[j]+B*lval B (b.drop (j+1))) 1]at h2
  omega
theorem cmp_len {a b:List Nat} (ha:limbs 1000000000 a) (hb:normal 1000000000 b) (h:a.length<b.length):lval 1000000000 a<lval 1000000000 b:=by
  have h1:=lval_lt ha;have hne:b≠[]:=by intro e;rw[e]at h;simp at h
  have h2:=normal_ge hb hne;have h3:1000000000 ^ a.length≤1000000000 ^ (b.length - 1):=Nat.pow_le_pow_right (by decide) (by omega)
  omega
theorem cmpN_lt {m n:Nat} (h:m<n):cmpN m n=-1:=if_pos h
theorem cmpN_gt {m n:Nat} (h:n<m):cmpN m n=1:=by unfold cmpN;rw[if_neg (by omega),if_pos h]
theorem cmpN_eq (m:Nat):cmpN m m=0:=by unfold cmpN;rw[if_neg (by omega),if_neg (by omega)]
end Cub
namespace Go.Proofs.YtliadckofhblnaaGreatDoor
open Go.RowKit
theorem zGw (a:Int) (w:World):Calls Tryz.prog 284 #[.int .u64 a] w fun e w'=>e=.returned (.bool false)∧w'=w:=by
  go_enter Tryz.func284,Tryz.ntmps284
  go_wp2
  go_ret
  exact⟨rfl,rfl⟩
theorem cmp64_any (a b:Nat) (w:World) :
    Calls Tryz.prog 254 #[.int .u64 (a:Int),.int .u64 (b:Int)] w fun e w'=>e=.returned (I (Cub.cmpN a b))∧w'=w:=by
  rcases Nat.lt_trichotomy a b with h|h|h
  · rw[Cub.cmpN_lt h]
    have h1:(a:Int)<(b:Int):=by omega
    go_enter Tryz.func254,Tryz.ntmps254
    go_wp2_with (go_at_call 284;refine(zGw _ _).mono ?_;rintro e w' ⟨rfl,rfl⟩)
    go_ret
    exact⟨rfl,rfl⟩
  · subst h
    rw[Cub.cmpN_eq];go_enter Tryz.func254,Tryz.ntmps254
    go_wp2_with (go_at_call 284;refine(zGw _ _).mono ?_;rintro e w' ⟨rfl,rfl⟩)
    go_ret
    exact⟨rfl,rfl⟩
  · rw[Cub.cmpN_gt h]
    have h1:(b:Int)<(a:Int):=by omega
    go_enter Tryz.func254,Tryz.ntmps254
    go_wp2_with (go_at_call 284;refine(zGw _ _).mono ?_;rintro e w' ⟨rfl,rfl⟩)
    go_ret
    exact⟨rfl,rfl⟩
theorem isNaNi_any (a:Int) (w:World):Calls Tryz.prog 283 #[I a] w fun e w'=>e=.returned (.bool false)∧w'=w:=by
  go_enter Tryz.func283,Tryz.ntmps283
  go_wp2
  go_ret
  exact⟨rfl,rfl⟩
theorem cmpi_any (a b:Nat) (w:World) :
    Calls Tryz.prog 253 #[I (a:Int),I (b:Int)] w fun e w'=>e=.returned (I (Cub.cmpN a b))∧w'=w:=by
  rcases Nat.lt_trichotomy a b with h|h|h
  · rw[Cub.cmpN_lt h]
    have h1:(a:Int)<(b:Int):=by omega
    go_enter Tryz.func253,Tryz.ntmps253
    go_wp2_with (go_at_call 283;refine(isNaNi_any _ _).mono ?_;rintro e w' ⟨rfl,rfl⟩)
    go_ret
    exact⟨rfl,rfl⟩
  · subst h
    rw[Cub.cmpN_eq];go_enter Tryz.func253,Tryz.ntmps253
    go_wp2_with (go_at_call 283;refine(isNaNi_any _ _).mono ?_;rintro e w' ⟨rfl,rfl⟩)
    go_ret
    exact⟨rfl,rfl⟩
  · rw[Cub.cmpN_gt h]
    have h1:(b:Int)<(a:Int):=by omega
    go_enter Tryz.func253,Tryz.ntmps253
    go_wp2_with (go_at_call 283;refine(isNaNi_any _ _).mono ?_;rintro e w' ⟨rfl,rfl⟩)
    go_ret
    exact⟨rfl,rfl⟩
theorem cmp_any (x y:Value) (m n:Nat) (w:World) (hx:zAf w x m) (hy:zAf w y n) :
    Calls Tryz.prog 207 #[x,y] w fun e w'=>e=.returned (I (Cub.cmpN m n))∧Bw w w':=by
  obtain⟨ap,lp,cp,rfl,hlp,hrp,hnp,rfl⟩:=hx.form;obtain⟨aq,lq,cq,rfl,hlq,hrq,hnq,rfl⟩:=hy.form;have HP:Hid (Cub.normal 1000000000 lp∧Cells w ap lp):=⟨hnp,hrp.cells.2.2.2⟩;have HQ:Hid (Cub.normal 1000000000 lq∧Cells w aq lq):=⟨hnq,hrq.cells.2.2.2⟩;obtain⟨np,hnp'⟩:∃np,np=lp.length:=⟨_,rfl⟩;obtain⟨nq,hnq'⟩:∃nq,nq=lq.length:=⟨_,rfl⟩;rw[←hnp']at hlp ⊢;rw[←hnq']at hlq ⊢;have HNP:=zAb hnp';have HNQ:=zAb hnq';clear hx hy hrp hrq hnp hnq hnp' hnq'
  by_cases hne:np=nq
  · subst hne
    have C78:Hid (∀W,Calls Tryz.prog 253 #[I (np:Int),I (np:Int)] W fun e w'=>e=.returned (I 0)∧w'=W):=fun W=>by have h:=cmpi_any np np W;rw[Cub.cmpN_eq]at h;exact h
    go_enter Tryz.func207,Tryz.ntmps207
    go_wp2_with (go_at_call 253;refine(un C78 _).mono ?_;rintro e w' ⟨rfl,rfl⟩)
    go_loopw [6] (fun t wr=>∃j:Nat,j≤np∧t=I ((j:Int) - 1)∧Hid (lp.drop j=lq.drop j)∧wr.cell? ⟨w.heap.size,0,none⟩=some (.slice ap np cp)∧wr.cell? ⟨w.heap.size+1,0,none⟩=some (.slice aq np cq)∧Bw w wr) (fun t _=>(intOf t+1).toNat)
    case atStart=>exact⟨np,Nat.le_refl _,rfl,by rw[List.drop_of_length_le (by have:=un HNP;omega),List.drop_of_length_le (by have:=un HNQ;omega)];exact rfl,by simp[go_sem],by simp[go_sem],((Below.refl _ _).alloc (Nat.le_refl _) _).alloc (by simp) _⟩
    case round=>
      obtain⟨j,hj,rfl,HD,hb1,hb2,hbl⟩:=hrel
      by_cases hj0:j=0
      · subst hj0
        have HF:Hid (Cub.cmpN (Cub.lval 1000000000 lp) (Cub.lval 1000000000 lq)=0):=by
          have h:=un HD;rw[List.drop_zero,List.drop_zero]at h;rw[h,Cub.cmpN_eq];exact rfl
        go_wp2
        go_ret
        exact⟨by rw[un HF];rfl,hbl⟩
      · obtain⟨i,rfl⟩:∃i,j=i+1:=⟨j - 1,by omega⟩
        have hip:i<lp.length:=by have:=un HNP;omega
        have hiq:i<lq.length:=by have:=un HNQ;omega
        obtain⟨b1,o1,rfl,hc1⟩:=(un HP).2 wr hbl i hip;obtain⟨b2,o2,rfl,hc2⟩:=(un HQ).2 wr hbl i hiq;obtain⟨xv,hxv⟩:∃xv,xv=lp[i]:=⟨_,rfl⟩;obtain⟨yv,hyv⟩:∃yv,yv=lq[i]:=⟨_,rfl⟩;rw[←hxv]at hc1;rw[←hyv]at hc2;obtain⟨c,hc⟩:∃c,c=Cub.cmpN xv yv:=⟨_,rfl⟩;have C79:Hid (∀W,Calls Tryz.prog 254 #[.int .u64 (xv:Int),.int .u64 (yv:Int)] W fun e w'=>e=.returned (I c)∧w'=W):=fun W=>by have h:=cmp64_any xv yv W;rw[←hc]at h;exact h
        have hin':(i:Int)<(np:Int):=by omega
        rw[show(((i+1:Nat):Int) - 1)=(i:Int)from by omega]
        by_cases hxy:xv=yv
        · have hc0:c=0:=by rw[hc,hxy,Cub.cmpN_eq]
          subst hc0
          have HD':Hid (lp.drop i=lq.drop i):=by
            rw[List.drop_eq_getElem_cons hip,List.drop_eq_getElem_cons hiq,un HD,←hxv,←hyv,hxy];exact rfl
          clear hc hxy hxv hyv hj0
          go_wp2
          go_quiet ((go_at_call 254;exact Calls.quiet_of_same (un C79 _)))
          go_wp2
          go_roundw
          case rel=>exact⟨i,by omega,rfl,HD',hb1,hb2,below_drewN hbl _⟩
          case measure=>simp[intOf]
        · have hcz:(c != 0)=true:=by
            rw[hc,bne_iff_ne];rcases Nat.lt_or_ge xv yv with h|h
            · rw[Cub.cmpN_lt h];omega
            · rw[Cub.cmpN_gt (show yv<xv by omega)];omega
          have HF:Hid (Cub.cmpN (Cub.lval 1000000000 lp) (Cub.lval 1000000000 lq)=c):=by
            have hl:lp.length=lq.length:=by rw[←un HNP,←un HNQ]
            rw[hc];rcases Nat.lt_or_ge xv yv with h|h
            · rw[Cub.cmpN_lt h,Cub.cmpN_lt (Cub.cmp_at (un HP).1.1 hl i hip (un HD) (by rw[←hxv,←hyv];exact h))];exact rfl
            · have h':yv<xv:=by omega
              rw[Cub.cmpN_gt h',Cub.cmpN_gt (Cub.cmp_at (un HQ).1.1 hl.symm i hiq (un HD).symm (by rw[←hxv,←hyv];exact h'))];exact rfl
          clear hc hxy hxv hyv hj0
          go_wp2
          go_quiet ((go_at_call 254;exact Calls.quiet_of_same (un C79 _)))
          go_wp2
          go_ret
          exact⟨by rw[un HF];rfl,below_drewN hbl _⟩
  · obtain⟨c,hc⟩:∃c,c=Cub.cmpN np nq:=⟨_,rfl⟩
    have hfin:Cub.cmpN (Cub.lval 1000000000 lp) (Cub.lval 1000000000 lq)=c:=by
      rw[hc];rcases Nat.lt_or_ge np nq with h|h
      · rw[Cub.cmpN_lt h,Cub.cmpN_lt (Cub.cmp_len (un HP).1.1 (un HQ).1 (by have:=un HNP;have:=un HNQ;omega))]
      · rw[Cub.cmpN_gt (show nq<np by omega),Cub.cmpN_gt (Cub.cmp_len (un HQ).1.1 (un HP).1 (by have:=un HNP;have:=un HNQ;omega))]
    have hc0:(c != 0)=true:=by
      rw[hc,bne_iff_ne];rcases Nat.lt_or_ge np nq with h|h
      · rw[Cub.cmpN_lt h];omega
      · rw[Cub.cmpN_gt (show nq<np by omega)];omega
    have C78:Hid (∀W,Calls Tryz.prog 253 #[I (np:Int),I (nq:Int)] W fun e w'=>e=.returned (I c)∧w'=W):=fun W=>by have h:=cmpi_any np nq W;rw[←hc]at h;exact h
    rw[hfin];clear hfin hc;go_enter Tryz.func207,Tryz.ntmps207
    go_wp2_with (go_at_call 253;refine(un C78 _).mono ?_;rintro e w' ⟨rfl,rfl⟩)
    go_ret
    exact⟨rfl,((Below.refl _ _).alloc (Nat.le_refl _) _).alloc (by simp) _⟩
end Go.Proofs.YtliadckofhblnaaGreatDoor
namespace Go.Proofs.YtliadckofhblnaaGreatDoor
open Go.RowKit
theorem add_core (X:Array Value) (ap aq:Option Addr) (np nq cp cq:Nat) (lp lq:List Nat) (w:World) (hX:(X=#[.agg #[.slice ap np cp],.agg #[.slice aq nq cq]]∧¬np<nq)∨(X=#[.agg #[.slice aq nq cq],.agg #[.slice ap np cp]]∧nq<np)) (hp1:np≤2000000) (hq1:nq≤np)
 (HP:Hid (np=lp.length∧Cub.limbs 1000000000 lp∧Cells w ap lp)) (HQ:Hid (nq=lq.length∧Cub.limbs 1000000000 lq∧Cells w aq lq)) :
 Calls Tryz.prog 215 X w fun e w'=>∃v,e=.returned v∧zAf w' v (Cub.lval 1000000000 lp+Cub.lval 1000000000 lq)∧Bw w w':=by
 obtain⟨i0,hi,hz0,hz1,hz2⟩:=info_parts Tryz.info168;rcases hX with ⟨rfl,hlt⟩|⟨rfl,hlt⟩
 all_goals
  go_enter Tryz.func215,Tryz.ntmps215
  go_wp2_with (first
   | (at_make;go_must(refine wpList_make_full _ rfl _ _ 78 rfl (w.heap.size+3) 168 i0 (.int .u64 0) 1 Tryz.underlying78 hi hz0 hz1 .i64 .i64 _ _ (np+1) rfl rfl (by omega) (by omega) (by rw[hz2];omega) (by unfold maxLen;omega) (by simp) ?_;intro w4 hown4 hgrow4;rw[zDw]at hown4;have hO4:Own w4 (w.heap.size+1+1+1) (List.replicate (np+1) 0):=(by have:=Own.of_row hown4;simpa using this);have hB4:=boxes3 ((Below.refl (w.heap.size+3) _).grown hgrow4 (by simp) (fun k hk=>by cases hk));have bp4:=hB4.c1;have HO4:=zAb hO4;have HB4:=zAb hB4;clear hown4 hgrow4 hO4 hB4))
   | (refine wpList_copy_splice rfl _ _ 78 78 rfl 168 Tryz.underlying78 Tryz.size168 _ _ _ _ _ _ rfl rfl (w.heap.size+1+1+1) 0 (zCx (List.replicate (np+1) 0)) 168 (un HO4) (zCx lp) (by rw[u64s_length,←(un HP).1];exact(Nat.min_eq_left (Nat.le_succ np)).symm) (fun h0=>⟨by simp,(un HP).2.2.src (un HB4).below (by rw[u64s_length]at h0;exact h0)⟩) (by rw[u64s_length,u64s_length,List.length_replicate,←(un HP).1];omega) (zGd lp) (w.heap.size+3) w4 (Below.refl _ _) (Nat.le_refl _) ?_;intro w5 hO5 hb5;rw[splice_sum lp np (un HP).1]at hO5;have HB5:=zAb ((un HB4).on hb5);have bp5:=(un HB5).c1;have bq5:=(un HB5).c2;clear hb5 HO4 HB4 bp4))
  have HO5:=hO5;clear hO5
  go_loopw [6,7] (fun c i wr=>∃(k j:Nat) (S:List Nat),c=.int .u64 (k:Int)∧i=I (j:Int)∧k≤1∧j≤np+1∧Hid (Cub.AddInv lp lq S k j)∧Hid (Own wr (w.heap.size+1+1+1) S)∧Hid (Boxes3 w wr (.slice ap np cp) (.slice aq nq cq) (.slice none 0 0))) (fun _ i _=>np+1 - (intOf i).toNat)
  case atStart=>exact⟨0,0,lp ++ [0],rfl,rfl,by omega,by omega,Cub.AddInv.start (un HP).2.1,HO5,HB5⟩
  case round=>
   obtain⟨k,j,S,rfl,rfl,hk,hj,HI,HO,HB⟩:=hrel;clear bp5 bq5 HO5 HB5;have bq:=(un HB).c2;have hSl:S.length=np+1:=by rw[(un HI).len,←(un HP).1]
   by_cases hjq:j<nq
   ·have hjS:j<S.length:=by omega
    obtain⟨x,hx⟩:∃x,x=S[j]:=⟨_,rfl⟩;have hxB:x<1000000000:=by rw[hx];exact(un HI).lim _ (List.getElem_mem hjS)
    have hcx:wr.cell? ⟨w.heap.size+1+1+1,j,none⟩=some (.int .u64 (x:Int)):=by rw[hx];exact(un HO).cell j hjS
    have hfx:=(un HO).frozen j;have hjl:j<lq.length:=by have:=(un HQ).1;omega
    obtain⟨y,hy⟩:∃y,y=lq[j]:=⟨_,rfl⟩;have hyB:y<1000000000:=by rw[hy];exact(un HQ).2.1 _ (List.getElem_mem hjl)
    obtain⟨b,o,rfl,hcy⟩:=(un HQ).2.2 wr (un HB).below j hjl;rw[←hy]at hcy
    have HI':Hid (Cub.AddInv lp lq (S.set j ((k+x+y) % 1000000000)) ((k+x+y) / 1000000000) (j+1)):=by
     have:=(un HI).step hjS hyB (by rw[hy];exact Cub.take_val lq j hjl);rw[←hx]at this;exact this
    have HO':Hid (Own (wr.setCell ⟨w.heap.size+1+1+1,j,none⟩ (.int .u64 (((k:Int)+(x:Int)+(y:Int)) % 1000000000))) (w.heap.size+1+1+1) (S.set j ((k+x+y) % 1000000000))):=by
     have:=(un HO).set j ((k+x+y) % 1000000000);rw[show(((k+x+y) % 1000000000:Nat):Int)=((k:Int)+(x:Int)+(y:Int)) % 1000000000 by omega]at this;exact this
    have HB':Hid (Boxes3 w (wr.setCell ⟨w.heap.size+1+1+1,j,none⟩ (.int .u64 (((k:Int)+(x:Int)+(y:Int)) % 1000000000))) (.slice ap np cp) (.slice (some ⟨b,o,none⟩) nq cq) (.slice none 0 0)) :=
     (un HB).on ((Below.refl (w.heap.size+3) wr).setCell (p:=⟨w.heap.size+1+1+1,j,none⟩) (show w.heap.size+3≤w.heap.size+1+1+1 by omega) _)
    clear hx hy hSl HI
    go_wp2
    go_roundw
    case rel=>exact⟨(k+x+y) / 1000000000,j+1,_,by go_num,by go_num,(un HI').carry,by omega,HI',HO',HB'⟩
    case measure=>simp[intOf];omega
   ·by_cases hk0:k=0
    ·subst hk0
     have hsum:=(un HI).sum (by have:=(un HQ).1;omega);obtain⟨t1,t2,_⟩:=Cub.lval_trim 1000000000 _ S rfl;have HF:Hid (Cub.lval 1000000000 (Cub.trimN S)=Cub.lval 1000000000 lp+Cub.lval 1000000000 lq∧Cub.normal 1000000000 (Cub.trimN S)):=⟨t1.trans hsum,t2 (un HI).lim⟩;have hsz:=(un HB).size;have br:=(un HB).c3;have fr:=(un HB).f3;clear hsum t1 t2
     go_wp2_with (go_at_call 217;refine(zEi _ S _ ((un HO).row (np+1) (np+1) hSl.symm (Nat.le_refl _) (by unfold maxLen;omega))).mono ?_;rintro e w6 ⟨v',rfl,hrow6,hb6⟩;obtain⟨a6,cap6,rfl,hcap6⟩:=hrow6.form;obtain⟨hc6,hf6⟩:=zBt hb6 (g:=w.heap.size+1+1) (by omega) br fr)
     refine bodyPost_ret (v:=.agg #[.slice a6 (Cub.trimN S).length cap6]) (by simp[results,Tryz.results215,go_sem,hc6]) rfl ⟨_,rfl,?_,?_⟩
     ·exact⟨_,_,rfl,hrow6.box _ hc6 (zBi _ _ _),(un HF).2,(un HF).1⟩
     ·exact((un HB).below.trans (hb6.mono (by omega))).setCell (p:=⟨w.heap.size+1+1,0,none⟩) (show w.heap.size≤w.heap.size+1+1 by omega) _
    ·have hjn:j≠np+1:=fun e=>hk0 ((un HI).last (un HP).2.1 (un HQ).2.1 (by have:=(un HP).1;have:=(un HQ).1;omega) (by have:=(un HP).1;omega))
     have hjS:j<S.length:=by omega
     obtain⟨x,hx⟩:∃x,x=S[j]:=⟨_,rfl⟩;have hxB:x<1000000000:=by rw[hx];exact(un HI).lim _ (List.getElem_mem hjS)
     have hcx:wr.cell? ⟨w.heap.size+1+1+1,j,none⟩=some (.int .u64 (x:Int)):=by rw[hx];exact(un HO).cell j hjS
     have hfx:=(un HO).frozen j
     have HI':Hid (Cub.AddInv lp lq (S.set j ((k+x) % 1000000000)) ((k+x) / 1000000000) (j+1)):=by
      have:=(un HI).step (c:=0) hjS (by decide) (by rw[Cub.take_val' lq j (by have:=(un HQ).1;omega)];simp);rw[←hx,Nat.add_zero]at this;exact this
     have HO':Hid (Own (wr.setCell ⟨w.heap.size+1+1+1,j,none⟩ (.int .u64 (((k:Int)+(x:Int)) % 1000000000))) (w.heap.size+1+1+1) (S.set j ((k+x) % 1000000000))):=by
      have:=(un HO).set j ((k+x) % 1000000000);rw[show(((k+x) % 1000000000:Nat):Int)=((k:Int)+(x:Int)) % 1000000000 by omega]at this;exact this
     have HB':Hid (Boxes3 w (wr.setCell ⟨w.heap.size+1+1+1,j,none⟩ (.int .u64 (((k:Int)+(x:Int)) % 1000000000))) (.slice ap np cp) (.slice aq nq cq) (.slice none 0 0)) :=
      (un HB).on ((Below.refl (w.heap.size+3) wr).setCell (p:=⟨w.heap.size+1+1+1,j,none⟩) (show w.heap.size+3≤w.heap.size+1+1+1 by omega) _)
     clear hx hSl HI
     go_wp2
     go_roundw
     case rel=>exact⟨(k+x) / 1000000000,j+1,_,by go_num,by go_num,(un HI').carry,by omega,HI',HO',HB'⟩
     case measure=>simp[intOf];omega
theorem bigadd_any (x y:Value) (m n k:Nat) (w:World) (hx:zAf w x m) (hy:zAf w y n) (hk:k≤1000000) (hm:m<1000000000 ^ k) (hn:n<1000000000 ^ k) :
 Calls Tryz.prog 215 #[x,y] w fun e w'=>∃v,e=.returned v∧zAf w' v (m+n)∧Bw w w':=by
 obtain⟨ax,lx,cx,rfl,hlx,hrx,hnx,rfl⟩:=hx.form;obtain⟨ay,ly,cy,rfl,hly,hry,hny,rfl⟩:=hy.form;have h1:=Cub.len_le hnx hm;have h2:=Cub.len_le hny hn
 by_cases hlt:lx.length<ly.length
 ·have:=add_core _ ay ax ly.length lx.length cy cx ly lx w (Or.inr ⟨rfl,hlt⟩) (by omega) (by omega) ⟨rfl,hny.1,hry.cells.2.2.2⟩ ⟨rfl,hnx.1,hrx.cells.2.2.2⟩
  rw[Nat.add_comm]at this;exact this
 ·exact add_core _ ax ay lx.length ly.length cx cy lx ly w (Or.inl ⟨rfl,hlt⟩) (by omega) (by omega) ⟨rfl,hnx.1,hrx.cells.2.2.2⟩ ⟨rfl,hny.1,hry.cells.2.2.2⟩
theorem sub_any (x y:Value) (m n k:Nat) (w:World) (hx:zAf w x m) (hy:zAf w y n) (hk:k≤1000000) (hm:m<1000000000 ^ k) (hle:n≤m) :
 Calls Tryz.prog 216 #[x,y] w fun e w'=>∃v,e=.returned v∧zAf w' v (m - n)∧Bw w w':=by
 obtain⟨ap,lp,cp,rfl,hlp,hrp,hnp,rfl⟩:=hx.form;obtain⟨aq,lq,cq,rfl,hlq,hrq,hnq,rfl⟩:=hy.form;have h1:=Cub.len_le hnp hm;have h2:=norm9_len_le hnp.1 hnq hle;have HP:Hid (lp.length=lp.length∧Cub.limbs 1000000000 lp∧Cells w ap lp):=⟨rfl,hnp.1,hrp.cells.2.2.2⟩;have HQ:Hid (Cub.limbs 1000000000 lq∧Cells w aq lq):=⟨hnq.1,hrq.cells.2.2.2⟩;have HLE:=zAb hle;obtain⟨np,hnp'⟩:∃np,np=lp.length:=⟨_,rfl⟩;obtain⟨nq,hnq'⟩:∃nq,nq=lq.length:=⟨_,rfl⟩;rw[←hnp']at h1 h2 ⊢;rw[←hnq']at h2 ⊢;have HNP:=zAb hnp';have HNQ:=zAb hnq';clear hx hy hm hle hlp hlq hrp hrq hnp hnq hnp' hnq';obtain⟨i0,hi,hz0,hz1,hz2⟩:=info_parts Tryz.info168;go_enter Tryz.func216,Tryz.ntmps216
 go_wp2_with (first
  | (at_make;go_must(refine wpList_make_full _ rfl _ _ 78 rfl (w.heap.size+3) 168 i0 (.int .u64 0) 1 Tryz.underlying78 hi hz0 hz1 .i64 .i64 _ _ np rfl rfl (by omega) (by omega) (by rw[hz2];omega) (by unfold maxLen;omega) (by simp) ?_;intro w4 hown4 hgrow4;rw[zDw]at hown4;have hO4:Own w4 (w.heap.size+1+1+1) (List.replicate np 0):=(by have:=Own.of_row hown4;simpa using this);have hB4:=boxes3 ((Below.refl (w.heap.size+3) _).grown hgrow4 (by simp) (fun k hk=>by cases hk));have bp4:=hB4.c1;have HO4:=zAb hO4;have HB4:=zAb hB4;clear hown4 hgrow4 hO4 hB4))
  | (go_at_call 259;go_must(refine(takeAway_any (w.heap.size+1+1+1) np np lp lq aq nq cq 1 _ (un HO5) (un HNP) (by omega) (un HP).2.1 (un HNQ) h2 (un HQ).1 (Nat.le_refl _) (by decide) (fun W hW i hi=>(un HQ).2 W ((un HB5).below.trans (hW.mono (by omega))) i hi)).mono ?_;rintro e w6 ⟨mi,F,rfl,hO6,hF6,hlF6,hv6,hmi6,hb6⟩;have HB6:=zAb ((un HB5).on (hb6.mono (show w.heap.size+3≤w.heap.size+1+1+1 by omega)));have HO6:=zAb (And.intro hO6 (And.intro hF6 hlF6));have HV6:=zAb hv6;clear hO6 hF6 hlF6 hv6 hb6 bp5 bq5))
  | (go_at_call 217;go_must(refine(zEi _ F _ ((un HO6).1.row np np (un HO6).2.1.symm (Nat.le_refl _) (by unfold maxLen;omega))).mono ?_;rintro e w7 ⟨v',rfl,hrow7,hb7⟩;obtain⟨a7,cap7,rfl,hcap7⟩:=hrow7.form;obtain⟨hc7,hf7⟩:=zBt hb7 (g:=w.heap.size+1+1) (by have:=(un HB6).size;omega) (un HB6).c3 (un HB6).f3))
  | (refine wpList_copy_splice rfl _ _ 78 78 rfl 168 Tryz.underlying78 Tryz.size168 _ _ _ _ _ _ rfl rfl (w.heap.size+1+1+1) 0 (zCx (List.replicate np 0)) 168 (un HO4) (zCx lp) (by rw[u64s_length,←un HNP];exact(Nat.min_self np).symm) (fun h0=>⟨by simp,(un HP).2.2.src (un HB4).below (by rw[u64s_length]at h0;exact h0)⟩) (by rw[u64s_length,u64s_length,List.length_replicate,←un HNP];omega) (zGd lp) (w.heap.size+3) w4 (Below.refl _ _) (Nat.le_refl _) ?_;intro w5 hO5 hb5;rw[splice_all lp np (un HNP)]at hO5;have HO5:=hO5;have HB5:=zAb ((un HB4).on hb5);have bp5:=(un HB5).c1;have bq5:=(un HB5).c2;clear hb5 HO4 HB4 bp4 hO5))
 obtain⟨t1,t2,_⟩:=Cub.lval_trim 1000000000 _ F rfl;refine bodyPost_ret (v:=.agg #[.slice a7 (Cub.trimN F).length cap7]) (by simp[results,Tryz.results216,go_sem,hc7]) rfl ⟨_,rfl,?_,?_⟩
 ·refine⟨_,_,rfl,hrow7.box _ hc7 (zBi _ _ _),t2 (un HO6).2.2,?_⟩
  rw[t1];exact sub_last (un HO6).2.2 (un HO6).2.1 (un HV6) (un HLE)
 ·exact((un HB6).below.trans (hb7.mono (by have:=(un HB6).size;omega))).setCell (p:=⟨w.heap.size+1+1,0,none⟩) (show w.heap.size≤w.heap.size+1+1 by omega) _
theorem one_list {l:List Nat} (hn:Cub.normal 1000000000 l):Cub.lval 1000000000 l=1↔l=[1]:=by
  constructor
  · intro h
    match l,hn,h with
    | [],_,h=>simp[Cub.lval]at h
    | [x],_,h=>simp[Cub.lval]at h;rw[h]
    | x :: y :: t,hn,h=>
      have:=Cub.normal_ge hn (by simp);have h2:(1000000000:Nat) ^ 1≤1000000000 ^ ((x :: y :: t).length - 1):=Nat.pow_le_pow_right (by decide) (by simp)
      omega
  · rintro rfl;rfl
theorem zCu (v:Value) (n:Nat) (w:World) (h:zAf w v n) :
    Calls Tryz.prog 188 #[v] w fun e w'=>e=.returned (.bool (n == 1))∧Bw w w':=by
  obtain⟨a,l,cap,rfl,hl,hr,hn,rfl⟩:=h.form;have h1:=one_list hn
  by_cases hlen:l.length=1
  · match l,hlen with
    | [x],_=>
      obtain⟨a',cap',e,_,_,hc⟩:=hr;simp only[Value.slice.injEq]at e;obtain⟨rfl,_,rfl⟩:=e;obtain⟨b,o,rfl,hb,hcell⟩:=hc (by simp);have c0:=hcell 0 (by simp);simp only[List.getElem_cons_zero,Nat.add_zero]at c0
      have ex:(Cub.lval 1000000000 [x] == 1)=((x:Int) == 1):=by
        simp[Cub.lval];rw[Bool.eq_iff_iff];simp;omega
      have hx:x<18446744073709551616:=by have:=hn.1 x (by simp);omega
      rw[ex];simp only[List.length_cons,List.length_nil,Nat.zero_add]at *;clear ex h1 hn h hcell hc;go_enter Tryz.func188,Tryz.ntmps188
      go_wp2
      go_ret
      exact⟨rfl,(Below.refl _ _).alloc (Nat.le_refl _) _⟩
  · have ex:(Cub.lval 1000000000 l == 1)=false:=by
      rw[beq_eq_false_iff_ne];intro e;exact hlen (by rw[h1.1 e];rfl)
    have el:((l.length:Int) == 1)=false:=by rw[beq_eq_false_iff_ne];omega
    rw[ex];clear ex h1 hn h hr;generalize l.length=len at *
    go_enter Tryz.func188,Tryz.ntmps188
    go_wp2
    go_ret
    exact⟨rfl,(Below.refl _ _).alloc (Nat.le_refl _) _⟩
structure Box (W:World) (g:Nat) (u:Value):Prop where
  c:W.cell? ⟨g,0,none⟩=some u
  f:W.frozen? ⟨g,0,none⟩=false
theorem Box.lt {W:World} {g:Nat} {u:Value} (h:Box W g u):g<W.heap.size:=World.block_lt_of_cell? _ _ h.c
theorem Box.later {W V:World} {g:Nat} {u:Value} (h:Box W g u) (hb:Below W.heap.size W V):Box V g u :=
  ⟨(hb.cell (p:=⟨g,0,none⟩) h.lt).trans h.c,(hb.frozen (p:=⟨g,0,none⟩) h.lt).trans h.f⟩
theorem Box.set {W:World} {g:Nat} {u:Value} (h:Box W g u) (x:Value):Box (W.setCell ⟨g,0,none⟩ x) g x :=
  ⟨World.cell?_setCell_same _ _ _ h.c,by rw[World.frozen?_setCell];exact h.f⟩
theorem Box.other {W:World} {g k:Nat} {u:Value} (h:Box W g u) (hk:g≠k) (x:Value):Box (W.setCell ⟨k,0,none⟩ x) g u :=
  ⟨by rw[World.cell?_setCell_other _ _ _ _ (by intro e;cases e;exact hk rfl)];exact h.c,by rw[World.frozen?_setCell];exact h.f⟩
def DivAns (k:Nat):Prop:=∀(W:World) (x y:Value) (m n:Nat),zAf W x m→zAf W y n→m<1000000000 ^ k→0<n→
 Calls Tryz.prog 149 #[x,y] W fun e w'=>∃a1 n1 c1 a2 n2 c2,e=.returned (.tuple #[.agg #[.slice a1 n1 c1],.agg #[.slice a2 n2 c2]])∧zAf w' (.agg #[.slice a1 n1 c1]) (m / n)∧zAf w' (.agg #[.slice a2 n2 c2]) (m % n)∧Bw W w'
def GcdAns (k:Nat):Prop:=∀(W:World) (x y:Value) (m n:Nat),zAf W x m→zAf W y n→m<1000000000 ^ k→n<1000000000 ^ k→
 Calls Tryz.prog 148 #[x,y] W fun e w'=>∃a l c,e=.returned (.agg #[.slice a l c])∧zAf w' (.agg #[.slice a l c]) (Nat.gcd m n)∧Bw W w'
structure LwSt (w W:World) (u v p q:Value):Prop where
 b1:Box W w.heap.size u
 b2:Box W (w.heap.size+1) v
 b3:Box W (w.heap.size+1+1) p
 b4:Box W (w.heap.size+1+1+1) q
 below:Below w.heap.size w W
theorem LwSt.later {w W V:World} {u v p q:Value} (s:LwSt w W u v p q) (hb:Below W.heap.size W V):LwSt w V u v p q :=
 ⟨s.b1.later hb,s.b2.later hb,s.b3.later hb,s.b4.later hb,s.below.trans (hb.mono s.below.size)⟩
theorem LwSt.first (w:World) (u v p q:Value):LwSt w ((((w.alloc (.cells #[u] 80)).alloc (.cells #[v] 80)).alloc (.cells #[p] 80)).alloc (.cells #[q] 80)) u v p q :=
 ⟨⟨by simp[go_sem],by simp[go_sem]⟩,⟨by simp[go_sem],by simp[go_sem]⟩,⟨by simp[go_sem],by simp[go_sem]⟩,⟨by simp[go_sem],by simp[go_sem]⟩,
  ((bA.alloc (by simp) _).alloc (by simp;omega) _).alloc (by simp;omega) _⟩
theorem LwSt.set3 {w W:World} {u v p q:Value} (s:LwSt w W u v p q) (x:Value):LwSt w (W.setCell ⟨w.heap.size+1+1,0,none⟩ x) u v x q :=
 ⟨s.b1.other (by omega) x,s.b2.other (by omega) x,s.b3.set x,s.b4.other (by omega) x,s.below.setCell (by simp;omega) _⟩
theorem LwSt.set4 {w W:World} {u v p q:Value} (s:LwSt w W u v p q) (x:Value):LwSt w (W.setCell ⟨w.heap.size+1+1+1,0,none⟩ x) u v p x :=
 ⟨s.b1.other (by omega) x,s.b2.other (by omega) x,s.b3.other (by omega) x,s.b4.set x,s.below.setCell (by simp;omega) _⟩
theorem LwSt.set1 {w W:World} {u v p q:Value} (s:LwSt w W u v p q) (x:Value):LwSt w (W.setCell ⟨w.heap.size,0,none⟩ x) x v p q :=
 ⟨s.b1.set x,s.b2.other (by omega) x,s.b3.other (by omega) x,s.b4.other (by omega) x,s.below.setCell (by simp) _⟩
theorem LwSt.set2 {w W:World} {u v p q:Value} (s:LwSt w W u v p q) (x:Value):LwSt w (W.setCell ⟨w.heap.size+1,0,none⟩ x) u x p q :=
 ⟨s.b1.other (by omega) x,s.b2.set x,s.b3.other (by omega) x,s.b4.other (by omega) x,s.below.setCell (by simp) _⟩
theorem zAp (a:Option Addr) (l c:Nat):∀k n,(Value.slice a l c)≠.int k n:=fun _ _ e=>by cases e
theorem zEy (x y:Value) (m n k:Nat) (w:World) (hx:zAf w x m) (hy:zAf w y n) (hm:m<1000000000 ^ k) (hn:n<1000000000 ^ k) (h0:0<n) (hD:DivAns k) (hG:GcdAns k) :
 Calls Tryz.prog 152 #[x,y] w fun e w'=>∃a1 l1 c1 a2 l2 c2,e=.returned (.tuple #[.agg #[.slice a1 l1 c1],.agg #[.slice a2 l2 c2]])∧zAf w' (.agg #[.slice a1 l1 c1]) (m / Nat.gcd m n)∧zAf w' (.agg #[.slice a2 l2 c2]) (n / Nat.gcd m n)∧Bw w w':=by
 have HX:=zAb hx;have HY:=zAb hy;obtain⟨ap,np,cp,rfl⟩:=hx.shape;obtain⟨aq,nq,cq,rfl⟩:=hy.shape;have H51x:Hid (∀W,zAf W (.agg #[.slice ap np cp]) m→Calls Tryz.prog 188 #[.agg #[.slice ap np cp]] W fun e w'=>e=.returned (.bool (m == 1))∧Bw W w'):=fun W h=>zCu _ m W h
 have H51y:Hid (∀W,zAf W (.agg #[.slice aq nq cq]) n→Calls Tryz.prog 188 #[.agg #[.slice aq nq cq]] W fun e w'=>e=.returned (.bool (n == 1))∧Bw W w'):=fun W h=>zCu _ n W h
 have HD:=zAb hD;have HG:=zAb hG;have HM:=zAb hm;have HNN:=zAb hn;have H0:=zAb h0;clear hx hy hm hn h0 hD hG;have HS0:=zAb (LwSt.first w (.slice ap np cp) (.slice aq nq cq) (.slice none 0 0) (.slice none 0 0));go_enter Tryz.func152,Tryz.ntmps152
 by_cases h1:m=1
 ·have hg:m / Nat.gcd m n=m∧n / Nat.gcd m n=n:=by rw[h1];simp
  rw[hg.1,hg.2];rw[show(m == 1)=true by rw[h1];rfl]at H51x;clear hg h1
  go_upto_region 2 with (go_at_call_of 188 (Value.agg #[Value.slice ap np cp]);go_must(refine(un H51x _ ((un HX).later (un HS0).below)).mono ?_;rintro e w1 ⟨rfl,hb1⟩;have HS:=zAb ((un HS0).later hb1);have HX1:=zAb (((un HX).later (un HS0).below).later hb1);have HY1:=zAb (((un HY).later (un HS0).below).later hb1);have b1:=(un HS).b1.c;have b2:=(un HS).b2.c;clear hb1))
  clear HS0 b1 b2;have b1:=(un HS).b1.c;have b2:=(un HS).b2.c;have b3:=(un HS).b3.c;have b4:=(un HS).b4.c;have f3:=(un HS).b3.f;have f4:=(un HS).b4.f
  go_region
  obtain⟨V,hV⟩:∃V,V=(((w1.setCell ⟨w.heap.size+1+1,0,none⟩ (.slice ap np cp)).setCell ⟨w.heap.size+1+1+1,0,none⟩ (.slice aq nq cq)).drew):=⟨_,rfl⟩
  have HE:Hid (LwSt w V (.slice ap np cp) (.slice aq nq cq) (.slice ap np cp) (.slice aq nq cq)∧zAf V (.agg #[.slice ap np cp]) m∧zAf V (.agg #[.slice aq nq cq]) n):=by
   rw[hV];refine⟨(((un HS).set3 _).set4 _).later ((Below.refl _ _).drew),?_,?_⟩
   ·exact(((un HX1).box _ (un HS).b3.c (zAp _ _ _)).box _ ((un HS).set3 _).b4.c (zAp _ _ _)).later ((Below.refl _ _).drew)
   ·exact(((un HY1).box _ (un HS).b3.c (zAp _ _ _)).box _ ((un HS).set3 _).b4.c (zAp _ _ _)).later ((Below.refl _ _).drew)
  rw[←hV];clear hV b1 b2 b3 b4 f3 f4;have d3:=(un HE).1.b3.c;have d4:=(un HE).1.b4.c
  go_wp2_with fail
  exact bodyPost_ret (v:=.tuple #[.agg #[.slice ap np cp],.agg #[.slice aq nq cq]]) (by simp[results,Tryz.results152,go_sem,d3,d4]) rfl ⟨_,_,_,_,_,_,rfl,(un HE).2.1,(un HE).2.2,(un HE).1.below⟩
 ·rw [show(m == 1)=false by rw[beq_eq_false_iff_ne];exact h1]at H51x
  by_cases h2:n=1
  ·have hg:m / Nat.gcd m n=m∧n / Nat.gcd m n=n:=by rw[h2];simp
   rw[hg.1,hg.2];rw[show(n == 1)=true by rw[h2];rfl]at H51y;clear hg h1 h2
   go_upto_region 2 with (first
    | (go_at_call_of 188 (Value.agg #[Value.slice ap np cp]);go_must(refine(un H51x _ ((un HX).later (un HS0).below)).mono ?_;rintro e w1 ⟨rfl,hb1⟩;have HS:=zAb ((un HS0).later hb1);have HX1:=zAb (((un HX).later (un HS0).below).later hb1);have HY1:=zAb (((un HY).later (un HS0).below).later hb1);have b1:=(un HS).b1.c;have b2:=(un HS).b2.c;clear hb1))
    | (go_at_call_of 188 (Value.agg #[Value.slice aq nq cq]);go_must(refine(un H51y w1 (un HY1)).mono ?_;rintro e w2 ⟨rfl,hb2⟩;have HS2:=zAb ((un HS).later hb2);have HX2:=zAb ((un HX1).later hb2);have HY2:=zAb ((un HY1).later hb2);clear b1 b2 hb2;have b1:=(un HS2).b1.c;have b2:=(un HS2).b2.c)))
   clear HS0 b1 b2;have b1:=(un HS2).b1.c;have b2:=(un HS2).b2.c;have b3:=(un HS2).b3.c;have b4:=(un HS2).b4.c;have f3:=(un HS2).b3.f;have f4:=(un HS2).b4.f
   go_region
   obtain⟨V,hV⟩:∃V,V=(((w2.setCell ⟨w.heap.size+1+1,0,none⟩ (.slice ap np cp)).setCell ⟨w.heap.size+1+1+1,0,none⟩ (.slice aq nq cq)).drew):=⟨_,rfl⟩
   have HE:Hid (LwSt w V (.slice ap np cp) (.slice aq nq cq) (.slice ap np cp) (.slice aq nq cq)∧zAf V (.agg #[.slice ap np cp]) m∧zAf V (.agg #[.slice aq nq cq]) n):=by
    rw[hV];refine⟨(((un HS2).set3 _).set4 _).later ((Below.refl _ _).drew),?_,?_⟩
    ·exact(((un HX2).box _ (un HS2).b3.c (zAp _ _ _)).box _ ((un HS2).set3 _).b4.c (zAp _ _ _)).later ((Below.refl _ _).drew)
    ·exact(((un HY2).box _ (un HS2).b3.c (zAp _ _ _)).box _ ((un HS2).set3 _).b4.c (zAp _ _ _)).later ((Below.refl _ _).drew)
   rw[←hV];clear hV b1 b2 b3 b4 f3 f4;have d3:=(un HE).1.b3.c;have d4:=(un HE).1.b4.c
   go_wp2_with fail
   exact bodyPost_ret (v:=.tuple #[.agg #[.slice ap np cp],.agg #[.slice aq nq cq]]) (by simp[results,Tryz.results152,go_sem,d3,d4]) rfl ⟨_,_,_,_,_,_,rfl,(un HE).2.1,(un HE).2.2,(un HE).1.below⟩
  ·rw[show(n == 1)=false by rw[beq_eq_false_iff_ne];exact h2]at H51y
   clear h1 h2
   go_upto_region 4 with (first
    | (go_at_call_of 188 (Value.agg #[Value.slice ap np cp]);go_must(refine(un H51x _ ((un HX).later (un HS0).below)).mono ?_;rintro e w1 ⟨rfl,hb1⟩;have HS:=zAb ((un HS0).later hb1);have HX1:=zAb (((un HX).later (un HS0).below).later hb1);have HY1:=zAb (((un HY).later (un HS0).below).later hb1);have b1:=(un HS).b1.c;have b2:=(un HS).b2.c;clear hb1))
    | (go_at_call_of 188 (Value.agg #[Value.slice aq nq cq]);go_must(refine(un H51y w1 (un HY1)).mono ?_;rintro e w2 ⟨rfl,hb2⟩;have HS2:=zAb ((un HS).later hb2);have HX2:=zAb ((un HX1).later hb2);have HY2:=zAb ((un HY1).later hb2);clear b1 b2 hb2;have b1:=(un HS2).b1.c;have b2:=(un HS2).b2.c))
    | (go_at_call 148;go_must(refine(un HG w2 _ _ m n (un HX2) (un HY2) (un HM) (un HNN)).mono ?_;rintro e w3 ⟨ag,lg,cg,rfl,hg3,hb3⟩;have HS3:=zAb ((un HS2).later hb3);have HX3:=zAb ((un HX2).later hb3);have HY3:=zAb ((un HY2).later hb3);have HG3:=zAb hg3;clear b1 b2 hg3 hb3)))
   clear HS0;obtain⟨V,hV⟩:∃V,V=w3.alloc (.cells #[.slice ag lg cg] 80):=⟨_,rfl⟩;have hbV:Below w3.heap.size w3 V:=by rw[hV];exact bA
   have HS4:=zAb ((un HS3).later hbV);have HX4:=zAb ((un HX3).later hbV);have HY4:=zAb ((un HY3).later hbV);have HG4:=zAb ((un HG3).later hbV);have HB4:Hid (Box V w3.heap.size (.slice ag lg cg)):=by rw[hV];exact⟨by simp[go_sem],by simp[go_sem]⟩
   have hlt:w.heap.size+1+1+1<w3.heap.size:=(un HS3).b4.lt;rw[←hV];clear hV hbV HS3 HX3 HY3 HG3 HS2 HX2 HY2 HS HX1 HY1;generalize hgb:w3.heap.size=gb at *
   clear hgb;have H51g:Hid (∀W,zAf W (.agg #[.slice ag lg cg]) (Nat.gcd m n)→Calls Tryz.prog 188 #[.agg #[.slice ag lg cg]] W fun e w'=>e=.returned (.bool (Nat.gcd m n == 1))∧Bw W w'):=fun W h=>zCu _ _ W h
   have q6:=(un HB4).c
   by_cases h3:Nat.gcd m n=1
   ·have HGE:Hid (m / Nat.gcd m n=m∧n / Nat.gcd m n=n):=⟨by rw[h3];simp,by rw[h3];simp⟩
    rw[show(Nat.gcd m n == 1)=true by rw[h3];rfl]at H51g;clear h3
    go_upto_region 5 with (go_at_call 188;go_must(refine(un H51g V (un HG4)).mono ?_;rintro e w4 ⟨rfl,hb4⟩;have HS5:=zAb ((un HS4).later hb4);have HX5:=zAb ((un HX4).later hb4);have HY5:=zAb ((un HY4).later hb4);clear hb4 q6))
    clear HS4 HX4 HY4 HG4 HB4;have b1:=(un HS5).b1.c;have b2:=(un HS5).b2.c;have b3:=(un HS5).b3.c;have b4:=(un HS5).b4.c;have f3:=(un HS5).b3.f;have f4:=(un HS5).b4.f
    go_region
    obtain⟨V,hV⟩:∃V,V=(((w4.setCell ⟨w.heap.size+1+1,0,none⟩ (.slice ap np cp)).setCell ⟨w.heap.size+1+1+1,0,none⟩ (.slice aq nq cq)).drew):=⟨_,rfl⟩
    have HE:Hid (LwSt w V (.slice ap np cp) (.slice aq nq cq) (.slice ap np cp) (.slice aq nq cq)∧zAf V (.agg #[.slice ap np cp]) m∧zAf V (.agg #[.slice aq nq cq]) n):=by
     rw[hV];refine⟨(((un HS5).set3 _).set4 _).later ((Below.refl _ _).drew),?_,?_⟩
     ·exact(((un HX5).box _ (un HS5).b3.c (zAp _ _ _)).box _ ((un HS5).set3 _).b4.c (zAp _ _ _)).later ((Below.refl _ _).drew)
     ·exact(((un HY5).box _ (un HS5).b3.c (zAp _ _ _)).box _ ((un HS5).set3 _).b4.c (zAp _ _ _)).later ((Below.refl _ _).drew)
    rw[←hV];clear hV b1 b2 b3 b4 f3 f4;have d3:=(un HE).1.b3.c;have d4:=(un HE).1.b4.c
    go_wp2_with fail
    exact bodyPost_ret (v:=.tuple #[.agg #[.slice ap np cp],.agg #[.slice aq nq cq]]) (by simp[results,Tryz.results152,go_sem,d3,d4]) rfl ⟨_,_,_,_,_,_,rfl,(by rw[(un HGE).1];exact(un HE).2.1),(by rw[(un HGE).2];exact(un HE).2.2),(un HE).1.below⟩
   ·have HGP:Hid (0<Nat.gcd m n):=Nat.gcd_pos_of_pos_right _ (un H0)
    rw[show(Nat.gcd m n == 1)=false by rw[beq_eq_false_iff_ne];exact h3]at H51g;clear h3
    go_upto_region 6 with (go_at_call 188;go_must(refine(un H51g V (un HG4)).mono ?_;rintro e w4 ⟨rfl,hb4⟩;have HS5:=zAb ((un HS4).later hb4);have HX5:=zAb ((un HX4).later hb4);have HY5:=zAb ((un HY4).later hb4);have HG5:=zAb ((un HG4).later hb4);have HB5:=zAb ((un HB4).later hb4);clear hb4 q6))
    clear HS4 HX4 HY4 HG4 HB4;have b1:=(un HS5).b1.c;have b2:=(un HS5).b2.c;have q6:=(un HB5).c
    go_upto_region 7 with (go_at_call 149;go_must(refine(un HD w4 _ _ m (Nat.gcd m n) (un HX5) (un HG5) (un HM) (un HGP)).mono ?_;rintro e w5 ⟨a1,l1,c1,a2,l2,c2,rfl,hq,hr,hb5⟩;have HS6:=zAb ((un HS5).later hb5);have HY6:=zAb ((un HY5).later hb5);have HG6:=zAb ((un HG5).later hb5);have HB6:=zAb ((un HB5).later hb5);have HQ6:=zAb hq;clear hb5 hq hr b1 b2 q6;have b1:=(un HS6).b1.c;have f1:=(un HS6).b1.f))
    obtain⟨V6,hV6⟩:∃V6,V6=w5.setCell ⟨w.heap.size,0,none⟩ (.slice a1 l1 c1):=⟨_,rfl⟩;have HS7:Hid (LwSt w V6 (.slice a1 l1 c1) (.slice aq nq cq) (.slice none 0 0) (.slice none 0 0)):=by rw[hV6];exact(un HS6).set1 _
    have HY7:Hid (zAf V6 (.agg #[.slice aq nq cq]) n):=by rw[hV6];exact(un HY6).box _ b1 (zAp _ _ _)
    have HG7:Hid (zAf V6 (.agg #[.slice ag lg cg]) (Nat.gcd m n)):=by rw[hV6];exact(un HG6).box _ b1 (zAp _ _ _)
    have HQ7:Hid (zAf V6 (.agg #[.slice a1 l1 c1]) (m / Nat.gcd m n)):=by rw[hV6];exact(un HQ6).box _ b1 (zAp _ _ _)
    have HB7:Hid (Box V6 gb (.slice ag lg cg)):=by rw[hV6];exact(un HB6).other (by omega) _
    rw[←hV6];clear hV6 HS6 HY6 HG6 HQ6 HB6 HS5 HX5 HY5 HG5 HB5 b1 f1;have b2:=(un HS7).b2.c;have q6:=(un HB7).c
    go_upto_region 8 with (go_at_call 149;go_must(refine(un HD V6 _ _ n (Nat.gcd m n) (un HY7) (un HG7) (un HNN) (un HGP)).mono ?_;rintro e w7 ⟨a3,l3,c3,a4,l4,c4,rfl,hq,hr,hb7⟩;have HS8:=zAb ((un HS7).later hb7);have HQ8:=zAb ((un HQ7).later hb7);have HR8:=zAb hq;clear hb7 hq hr b2 q6;have b2:=(un HS8).b2.c;have f2:=(un HS8).b2.f))
    obtain⟨V8,hV8⟩:∃V8,V8=w7.setCell ⟨w.heap.size+1,0,none⟩ (.slice a3 l3 c3):=⟨_,rfl⟩;have HS9:Hid (LwSt w V8 (.slice a1 l1 c1) (.slice a3 l3 c3) (.slice none 0 0) (.slice none 0 0)):=by rw[hV8];exact(un HS8).set2 _
    have HQ9:Hid (zAf V8 (.agg #[.slice a1 l1 c1]) (m / Nat.gcd m n)):=by rw[hV8];exact(un HQ8).box _ b2 (zAp _ _ _)
    have HR9:Hid (zAf V8 (.agg #[.slice a3 l3 c3]) (n / Nat.gcd m n)):=by rw[hV8];exact(un HR8).box _ b2 (zAp _ _ _)
    rw[←hV8];clear hV8 HS8 HQ8 HR8 HS7 HY7 HG7 HQ7 HB7 b2 f2;have b1:=(un HS9).b1.c;have b2:=(un HS9).b2.c;have b3:=(un HS9).b3.c;have b4:=(un HS9).b4.c;have f3:=(un HS9).b3.f;have f4:=(un HS9).b4.f
    go_region
    obtain⟨V,hV⟩:∃V,V=(((V8.setCell ⟨w.heap.size+1+1,0,none⟩ (.slice a1 l1 c1)).setCell ⟨w.heap.size+1+1+1,0,none⟩ (.slice a3 l3 c3)).drew):=⟨_,rfl⟩
    have HE:Hid (LwSt w V (.slice a1 l1 c1) (.slice a3 l3 c3) (.slice a1 l1 c1) (.slice a3 l3 c3)∧zAf V (.agg #[.slice a1 l1 c1]) (m / Nat.gcd m n)∧zAf V (.agg #[.slice a3 l3 c3]) (n / Nat.gcd m n)):=by
     rw[hV];refine⟨(((un HS9).set3 _).set4 _).later ((Below.refl _ _).drew),?_,?_⟩
     ·exact(((un HQ9).box _ (un HS9).b3.c (zAp _ _ _)).box _ ((un HS9).set3 _).b4.c (zAp _ _ _)).later ((Below.refl _ _).drew)
     ·exact(((un HR9).box _ (un HS9).b3.c (zAp _ _ _)).box _ ((un HS9).set3 _).b4.c (zAp _ _ _)).later ((Below.refl _ _).drew)
    rw[←hV];clear hV b1 b2 b3 b4 f3 f4;have d3:=(un HE).1.b3.c;have d4:=(un HE).1.b4.c
    go_wp2_with fail
    exact bodyPost_ret (v:=.tuple #[.agg #[.slice a1 l1 c1],.agg #[.slice a3 l3 c3]]) (by simp[results,Tryz.results152,go_sem,d3,d4]) rfl ⟨_,_,_,_,_,_,rfl,(un HE).2.1,(un HE).2.2,(un HE).1.below⟩
end Go.Proofs.YtliadckofhblnaaGreatDoor
namespace Cub
structure Low (b:Bool) (n d:Nat):Prop where
 pos:0<d
 cop:Nat.gcd n d=1
 sign:b=true→n≠0
def sg (b:Bool) (n:Nat):Int:=if b then -(n:Int)else n
def valQ (b:Bool) (n d:Nat):Rat:=((sg b n:Int):Rat) / ((d:Nat):Rat)
theorem sg_abs (b:Bool) (n:Nat):(sg b n).natAbs=n:=by cases b<;>simp[sg]
theorem sg_mul (b c:Bool) (n m:Nat):sg b n*sg c m=sg (b != c) (n*m):=by
 cases b<;>cases c<;>simp[sg,Int.mul_neg,Int.neg_mul]
theorem sg_mulNat (b:Bool) (n m:Nat):sg b n*(m:Int)=sg b (n*m):=by cases b<;>simp[sg,Int.neg_mul]
theorem sg_neg (b:Bool) (n:Nat):sg (!b) n=-sg b n:=by cases b<;>simp[sg]
theorem sg_zero (b:Bool):sg b 0=0:=by cases b<;>rfl
theorem dR {d:Nat} (h:0<d):((d:Nat):Rat)≠0:=by
 have:d≠0:=by omega
 exact_mod_cast this
theorem div_eq_iff {a b c d:Rat} (hb:b≠0) (hd:d≠0):a / b=c / d↔a*d=c*b:=by
 constructor
 ·intro h;grind
 ·intro h;grind
theorem valQ_eq {b b':Bool} {n d n' d':Nat} (hd:0<d) (hd':0<d'):valQ b n d=valQ b' n' d'↔sg b n*(d':Int)=sg b' n'*(d:Int):=by
 unfold valQ
 rw[div_eq_iff (dR hd) (dR hd')]
 constructor
 ·intro h;exact_mod_cast h
 ·intro h;exact_mod_cast h
theorem low_unique {b b':Bool} {n d n' d':Nat} (h:Low b n d) (h':Low b' n' d') (e:valQ b n d=valQ b' n' d'):b=b'∧n=n'∧d=d':=by
 have e1:=(valQ_eq h.pos h'.pos).1 e
 have e2:n*d'=n'*d:=by
  have:=congrArg Int.natAbs e1
  rw[Int.natAbs_mul,Int.natAbs_mul,sg_abs,sg_abs]at this
  simpa using this
 have d1:d ∣ d':=by
  have:d ∣ n*d':=⟨n',by rw[e2,Nat.mul_comm]⟩
  exact(Nat.Coprime.dvd_of_dvd_mul_left (Nat.Coprime.symm h.cop) this)
 have d2:d' ∣ d:=by
  have:d' ∣ n'*d:=⟨n,by rw[←e2,Nat.mul_comm]⟩
  exact(Nat.Coprime.dvd_of_dvd_mul_left (Nat.Coprime.symm h'.cop) this)
 have ed:d=d':=Nat.dvd_antisymm d1 d2
 subst ed
 have en:n=n':=Nat.eq_of_mul_eq_mul_right h.pos e2
 subst en
 refine⟨?_,rfl,rfl⟩
 have e3:sg b n=sg b' n:=Int.eq_of_mul_eq_mul_right (by have:=h.pos;omega) e1
 by_cases hn:n=0
 ·have hb:b=false:=by cases b with|false=>rfl|true=>exact absurd hn (h.sign rfl)
  have hb':b'=false:=by cases b' with|false=>rfl|true=>exact absurd hn (h'.sign rfl)
  rw[hb,hb']
 ·cases b<;>cases b'<;>first|rfl|(exfalso;simp[sg]at e3;omega)
theorem zJj {n d:Nat} (hd:0<d):Nat.gcd (n / Nat.gcd n d) (d / Nat.gcd n d)=1∧0<d / Nat.gcd n d∧n / Nat.gcd n d*d=n*(d / Nat.gcd n d):=by
 have hg:0<Nat.gcd n d:=Nat.gcd_pos_of_pos_right _ hd
 obtain⟨a,ha⟩:=Nat.gcd_dvd_left n d
 obtain⟨c,hc⟩:=Nat.gcd_dvd_right n d
 have h1:n / Nat.gcd n d=a:=by rw[Nat.div_eq_of_eq_mul_right hg ha]
 have h2:d / Nat.gcd n d=c:=by rw[Nat.div_eq_of_eq_mul_right hg hc]
 refine⟨Nat.coprime_div_gcd_div_gcd hg,?_,?_⟩
 ·rw[h2]
  rcases Nat.eq_zero_or_pos c with h|h
  ·rw[h]at hc;omega
  ·exact h
 ·rw[h1,h2]
  generalize Nat.gcd n d=g at *
  rw[ha,hc]
  grind
theorem ratio_low {b:Bool} {n d:Nat} (hd:0<d):Low (b && decide (n / Nat.gcd n d≠0)) (n / Nat.gcd n d) (d / Nat.gcd n d)∧valQ (b && decide (n / Nat.gcd n d≠0)) (n / Nat.gcd n d) (d / Nat.gcd n d)=valQ b n d:=by
 obtain⟨h1,h2,h3⟩:=zJj (n:=n) hd
 refine⟨⟨h2,h1,fun h=>by rw[Bool.and_eq_true,decide_eq_true_iff]at h;exact h.2⟩,?_⟩
 rw[valQ_eq h2 hd]
 generalize n / Nat.gcd n d=a at *
 generalize d / Nat.gcd n d=c at *
 rw[sg_mulNat,sg_mulNat,h3]
 by_cases ha:a=0
 ·subst ha
  simp only[Nat.zero_mul]at h3
  rw[←h3,sg_zero,sg_zero]
 ·simp[ha]
theorem mul_low {b c:Bool} {n d m e:Nat} (h:Low b n d) (k:Low c m e) :
  Low ((b != c) && decide (n / Nat.gcd n e*(m / Nat.gcd m d)≠0)) (n / Nat.gcd n e*(m / Nat.gcd m d)) (d / Nat.gcd m d*(e / Nat.gcd n e))∧
   valQ ((b != c) && decide (n / Nat.gcd n e*(m / Nat.gcd m d)≠0)) (n / Nat.gcd n e*(m / Nat.gcd m d)) (d / Nat.gcd m d*(e / Nat.gcd n e))=valQ b n d*valQ c m e:=by
 obtain⟨p1,p2,p3⟩:=zJj (n:=n) k.pos
 obtain⟨q1,q2,q3⟩:=zJj (n:=m) h.pos
 have hn:n / Nat.gcd n e ∣ n:=Nat.div_dvd_of_dvd (Nat.gcd_dvd_left n e)
 have hm:m / Nat.gcd m d ∣ m:=Nat.div_dvd_of_dvd (Nat.gcd_dvd_left m d)
 have hd:d / Nat.gcd m d ∣ d:=Nat.div_dvd_of_dvd (Nat.gcd_dvd_right m d)
 have he:e / Nat.gcd n e ∣ e:=Nat.div_dvd_of_dvd (Nat.gcd_dvd_right n e)
 have hk:=k.pos
 have hh:=h.pos
 have c1:Nat.Coprime (n / Nat.gcd n e) (d / Nat.gcd m d):=Nat.Coprime.coprime_dvd_left hn (Nat.Coprime.coprime_dvd_right hd h.cop)
 have c2:Nat.Coprime (m / Nat.gcd m d) (e / Nat.gcd n e):=Nat.Coprime.coprime_dvd_left hm (Nat.Coprime.coprime_dvd_right he k.cop)
 generalize n / Nat.gcd n e=n' at *
 generalize e / Nat.gcd n e=e' at *
 generalize m / Nat.gcd m d=m' at *
 generalize d / Nat.gcd m d=d' at *
 have hpos:0<d'*e':=Nat.mul_pos q2 p2
 refine⟨⟨hpos,?_,fun hs=>by rw[Bool.and_eq_true,decide_eq_true_iff]at hs;exact hs.2⟩,?_⟩
 ·have a1:Nat.Coprime n' (d'*e'):=Nat.Coprime.mul_right c1 p1
  have a2:Nat.Coprime m' (d'*e'):=Nat.Coprime.mul_right q1 c2
  exact Nat.Coprime.mul_left a1 a2
 ·have e1:valQ b n d*valQ c m e=valQ (b != c) (n*m) (d*e):=by
   unfold valQ
   rw[←sg_mul]
   have x1:=dR hh
   have x2:=dR hk
   push_cast
   grind
  rw[e1,valQ_eq hpos (Nat.mul_pos hh hk),sg_mulNat,sg_mulNat]
  have e2:n'*m'*(d*e)=n*m*(d'*e'):=by
   have:(n'*e)*(m'*d)=(n*e')*(m*d'):=by rw[p3,q3]
   grind
  rw[e2]
  by_cases h0:n'*m'=0
  ·rw[h0,Nat.zero_mul]at e2
   rw[←e2,sg_zero,sg_zero]
  ·simp[h0]
def addSg (b:Bool) (x:Nat) (c:Bool) (y:Nat):Bool×Nat:=if b=c then(b,x+y)else if x<y then(c,y - x)else(b,x - y)
theorem addSg_val (b:Bool) (x:Nat) (c:Bool) (y:Nat):sg (addSg b x c y).1 (addSg b x c y).2=sg b x+sg c y:=by
  unfold addSg
  by_cases h:b=c
  · subst h
    rw[if_pos rfl]
    cases b<;>simp[sg]<;>omega
  · rw[if_neg h]
    by_cases hx:x<y
    · rw[if_pos hx]
      cases b<;>cases c<;>simp[sg]at h ⊢<;>omega
    · rw[if_neg hx]
      cases b<;>cases c<;>simp[sg]at h ⊢<;>omega
theorem valQ_add {b c bb:Bool} {n d k e m:Nat} (hd:0<d) (he:0<e) (h:sg bb m=sg b (n*e)+sg c (k*d)):valQ bb m (d*e)=valQ b n d+valQ c k e:=by
  unfold valQ
  rw[h,←sg_mulNat,←sg_mulNat]
  have x1:=dR hd
  have x2:=dR he
  push_cast
  grind
theorem valQ_zero (b:Bool) (d:Nat):valQ b 0 d=0:=by
  unfold valQ
  rw[sg_zero,Rat.div_def]
  push_cast
  exact Rat.zero_mul _
theorem low_zero:Low false 0 1:=⟨by omega,by simp,fun h=>by cases h⟩
theorem dvd_part {bb b c:Bool} {m x y k:Nat} (h:sg bb m=sg b x+sg c y) (hm:k ∣ m) (hy:k ∣ y):k ∣ x:=by
  have a1:(k:Int) ∣ sg bb m:=Int.ofNat_dvd_left.2 (by rw[sg_abs];exact hm)
  have a2:(k:Int) ∣ sg c y:=Int.ofNat_dvd_left.2 (by rw[sg_abs];exact hy)
  rw[h]at a1
  have a3:(k:Int) ∣ sg b x:=(Int.dvd_add_left a2).1 a1
  have a4:=Int.ofNat_dvd_left.1 a3
  rwa [sg_abs]at a4
theorem cop_of {x y:Nat} (h:∀k,k ∣ x→k ∣ y→k ∣ 1):Nat.gcd x y=1:=Nat.dvd_one.1 (h _ (Nat.gcd_dvd_left x y) (Nat.gcd_dvd_right x y))
theorem add_low {b c:Bool} {n d k e:Nat} (h:Low b n d) (h':Low c k e) {s f g m:Nat} {bb:Bool} (hs:s=Nat.gcd d e) (hf:f=d / s) (hg:g=e / s) (hm:(bb,m)=addSg b (n*g) c (k*f)) :
    (m / Nat.gcd m s=0→valQ b n d+valQ c k e=0)∧(m / Nat.gcd m s≠0→Low bb (m / Nat.gcd m s) (s / Nat.gcd m s*f*g)∧valQ bb (m / Nat.gcd m s) (s / Nat.gcd m s*f*g)=valQ b n d+valQ c k e):=by
  have hd:=h.pos
  have he:=h'.pos
  have spos:0<s:=by rw[hs];exact Nat.gcd_pos_of_pos_left _ hd
  have sd:s ∣ d:=by rw[hs];exact Nat.gcd_dvd_left d e
  have se:s ∣ e:=by rw[hs];exact Nat.gcd_dvd_right d e
  have ed:d=s*f:=by rw[hf];exact(Nat.mul_div_cancel' sd).symm
  have ee:e=s*g:=by rw[hg];exact(Nat.mul_div_cancel' se).symm
  have cfg:Nat.Coprime f g:=by rw[hf,hg,hs];exact Nat.coprime_div_gcd_div_gcd (by rw[←hs];exact spos)
  have hv:sg bb m=sg b (n*g)+sg c (k*f):=by
    have:=addSg_val b (n*g) c (k*f)
    rw[←hm]at this
    exact this
  have fpos : 0 < f := by rcases Nat.eq_zero_or_pos f with h0|h0;· rw[h0,Nat.mul_zero]at ed;omega
                          · exact h0
  have gpos : 0 < g := by rcases Nat.eq_zero_or_pos g with h0|h0;· rw[h0,Nat.mul_zero]at ee;omega
                          · exact h0
  -- the sum over s * f * g
  have hsum:valQ bb m (s*f*g)=valQ b n d+valQ c k e:=by
    have e1:sg bb (m*s)=sg b (n*e)+sg c (k*d):=by
      rw[←sg_mulNat,hv,ee,ed,Int.add_mul,sg_mulNat,sg_mulNat]
      congr 2<;>grind
    rw[←valQ_add hd he e1,valQ_eq (Nat.mul_pos (Nat.mul_pos spos fpos) gpos) (Nat.mul_pos hd he),sg_mulNat,sg_mulNat]
    congr 1
    rw[ed,ee]
    grind
  obtain⟨q1,q2,q3⟩:=zJj (n:=m) spos
  have hgm:m / Nat.gcd m s ∣ m:=Nat.div_dvd_of_dvd (Nat.gcd_dvd_left m s)
  refine⟨fun h0=>?_,fun h0=>?_⟩
  · rw[h0]at hgm
    have:m=0:=Nat.zero_dvd.1 hgm
    rw[←hsum,this,valQ_zero]
  · generalize m / Nat.gcd m s=m' at *
    generalize s / Nat.gcd m s=s' at *
    have pos':0<s'*f*g:=Nat.mul_pos (Nat.mul_pos q2 fpos) gpos
    refine⟨⟨pos',?_,fun _=>h0⟩,?_⟩
    · have cf:Nat.Coprime m' f:=cop_of fun t ht hf'=>by
        have t1:t ∣ n*g:=dvd_part hv (Nat.dvd_trans ht hgm) (Nat.dvd_trans hf' (Nat.dvd_mul_left f k))
        have t2:Nat.Coprime t n:=Nat.Coprime.symm (Nat.Coprime.coprime_dvd_right (Nat.dvd_trans hf' ⟨s,by rw[ed,Nat.mul_comm]⟩) h.cop)
        have t3:t ∣ g:=Nat.Coprime.dvd_of_dvd_mul_left t2 t1
        have t4:=Nat.dvd_gcd hf' t3
        rw[cfg]at t4
        exact t4
      have cg:Nat.Coprime m' g:=cop_of fun t ht hg'=>by
        have t1:t ∣ k*f:=dvd_part (x:=k*f) (y:=n*g) (b:=c) (c:=b) (by rw[hv,Int.add_comm]) (Nat.dvd_trans ht hgm) (Nat.dvd_trans hg' (Nat.dvd_mul_left g n))
        have t2:Nat.Coprime t k:=Nat.Coprime.symm (Nat.Coprime.coprime_dvd_right (Nat.dvd_trans hg' ⟨s,by rw[ee,Nat.mul_comm]⟩) h'.cop)
        have t3:t ∣ f:=Nat.Coprime.dvd_of_dvd_mul_left t2 t1
        have t4:=Nat.dvd_gcd t3 hg'
        rw[cfg]at t4
        exact t4
      exact Nat.Coprime.mul_right (Nat.Coprime.mul_right q1 cf) cg
    · rw[←hsum,valQ_eq pos' (Nat.mul_pos (Nat.mul_pos spos fpos) gpos),sg_mulNat,sg_mulNat]
      congr 1
      have:m'*s*(f*g)=m*s'*(f*g):=by rw[q3]
      grind
theorem refAdd_val {b c bb:Bool} {n d k e m:Nat} (h:Low b n d) (h':Low c k e) (hm:(bb,m)=addSg b (n*e) c (k*d)):valQ bb m (d*e)=valQ b n d+valQ c k e:=by
  refine valQ_add h.pos h'.pos ?_
  have:=addSg_val b (n*e) c (k*d)
  rw[←hm]at this
  exact this
theorem neg_low {b:Bool} {n d:Nat} (h:Low b n d):Low (!b && decide (n≠0)) n d∧valQ (!b && decide (n≠0)) n d=-valQ b n d:=by
  refine⟨⟨h.pos,h.cop,fun hs=>by rw[Bool.and_eq_true,decide_eq_true_iff]at hs;exact hs.2⟩,?_⟩
  by_cases h0:n=0
  · subst h0;rw[valQ_zero,valQ_zero];simp
  · simp only[h0,ne_eq,not_false_eq_true,decide_true,Bool.and_true]
    unfold valQ
    rw[sg_neg]
    push_cast
    grind
theorem inv_low {b:Bool} {n d:Nat} (h:Low b n d) (hn:n≠0):Low b d n∧valQ b d n=(valQ b n d)⁻¹:=by
  refine⟨⟨by omega,by rw[Nat.gcd_comm];exact h.cop,fun _=>by have:=h.pos;omega⟩,?_⟩
  have x1:=dR h.pos
  have x2:((n:Nat):Rat)≠0:=dR (by omega)
  unfold valQ sg
  cases b<;>simp only[Bool.false_eq_true,if_true,if_false]<;>push_cast<;>grind
theorem num_below (x:Rat):x.num<0↔x<0:=by
  have h:=Rat.num_nonneg (q:=x)
  constructor
  · intro h1
    exact Rat.not_le.1 fun h2=>by have:=h.2 h2;omega
  · intro h1
    have:¬ 0≤x.num:=fun h2=>Rat.not_le.2 h1 (h.1 h2)
    omega
theorem low_of (x:Rat):Low (decide (x<0)) x.num.natAbs x.den∧valQ (decide (x<0)) x.num.natAbs x.den=x:=by
  have hs:sg (decide (x<0)) x.num.natAbs=x.num:=by
    unfold sg
    by_cases h:x<0
    · have:x.num<0:=(num_below x).2 h
      simp only[h,decide_true,if_true];omega
    · have:¬x.num<0:=fun h2=>h ((num_below x).1 h2)
      simp only[h,decide_false,Bool.false_eq_true,if_false];omega
  refine⟨⟨x.den_pos,x.reduced,fun h=>?_⟩,?_⟩
  · have:=(num_below x).2 (of_decide_eq_true h)
    omega
  · unfold valQ
    rw[hs,←Rat.mkRat_eq_div,Rat.mkRat_self]
theorem low_is {b:Bool} {n d:Nat} (h:Low b n d):b=decide (valQ b n d<0)∧n=(valQ b n d).num.natAbs∧d=(valQ b n d).den :=
  low_unique h (low_of _).1 (low_of _).2.symm
theorem valQ_lt {b c:Bool} {n d m e:Nat} (hd:0<d) (he:0<e):valQ b n d<valQ c m e↔sg b n*(e:Int)<sg c m*(d:Int):=by
  unfold valQ
  rw[Rat.div_lt_iff (Rat.natCast_pos.2 hd),Rat.div_def,show((sg c m:Int):Rat)*((e:Nat):Rat)⁻¹*((d:Nat):Rat)=((sg c m:Int):Rat)*((d:Nat):Rat) / ((e:Nat):Rat) by rw[Rat.div_def];grind,Rat.lt_div_iff (Rat.natCast_pos.2 he)]
  constructor
  · intro h;exact_mod_cast h
  · intro h;exact_mod_cast h
def cmpQ (x y:Rat):Int:=if x<y then -1 else if y<x then 1 else 0
theorem sign_val {b:Bool} {n d:Nat} (h:Low b n d):(if b then -1 else if n=0 then(0:Int)else 1)=cmpQ (valQ b n d) 0:=by
  have hz:(0:Rat)=valQ false 0 1:=(valQ_zero false 1).symm
  have hd:=h.pos
  have hb:=h.sign
  unfold cmpQ
  rw[hz]
  simp only[valQ_lt h.pos (show 0<1 by omega),valQ_lt (show 0<1 by omega) h.pos,sg_zero]
  cases b
  · by_cases hn:n=0
    · subst hn;simp[sg]
    · have:0<n:=by omega
      simp[sg,hn,this]
  · have:0<n:=by have:=hb rfl;omega
    simp[sg,this]
end Cub
namespace Go.Proofs.YtliadckofhblnaaGreatDoor
open Go.RowKit
structure A3St (w W:World) (u v p:Value):Prop where
 b1:Box W w.heap.size u
 b2:Box W (w.heap.size+1) v
 b3:Box W (w.heap.size+1+1) p
 below:Below w.heap.size w W
theorem A3St.later {w W V:World} {u v p:Value} (s:A3St w W u v p) (hb:Below W.heap.size W V):A3St w V u v p :=
 ⟨s.b1.later hb,s.b2.later hb,s.b3.later hb,s.below.trans (hb.mono s.below.size)⟩
theorem A3St.first (w:World) (u v p:Value):A3St w (((w.alloc (.cells #[u] 80)).alloc (.cells #[v] 80)).alloc (.cells #[p] 80)) u v p :=
 ⟨⟨by simp[go_sem],by simp[go_sem]⟩,⟨by simp[go_sem],by simp[go_sem]⟩,⟨by simp[go_sem],by simp[go_sem]⟩,
  (bA.alloc (by simp) _).alloc (by simp;omega) _⟩
theorem A3St.set3 {w W:World} {u v p:Value} (s:A3St w W u v p) (x:Value):A3St w (W.setCell ⟨w.heap.size+1+1,0,none⟩ x) u v x :=
 ⟨s.b1.other (by omega) x,s.b2.other (by omega) x,s.b3.set x,s.below.setCell (by simp;omega) _⟩
def zCd (w:World) (v:Value) (b:Bool) (n d:Nat):Prop:=∃s t,v=.agg #[.bool b,s,t]∧zAf w (.agg #[s]) n∧zAf w (.agg #[t]) d
theorem zCd.later {w w':World} {v:Value} {b:Bool} {n d:Nat} (h:zCd w v b n d) (hb:Below w.heap.size w w'):zCd w' v b n d:=by
 obtain⟨s,t,rfl,h1,h2⟩:=h;exact⟨s,t,rfl,h1.later hb,h2.later hb⟩
theorem zCd.form {w:World} {v:Value} {b:Bool} {n d:Nat} (h:zCd w v b n d):∃a1 l1 c1 a2 l2 c2,v=.agg #[.bool b,.slice a1 l1 c1,.slice a2 l2 c2]∧zAf w (.agg #[.slice a1 l1 c1]) n∧zAf w (.agg #[.slice a2 l2 c2]) d:=by
 obtain⟨s,t,rfl,h1,h2⟩:=h;obtain⟨a1,l1,c1,e1⟩:=h1.shape;obtain⟨a2,l2,c2,e2⟩:=h2.shape;simp only[Value.agg.injEq,Array.mk.injEq,List.cons.injEq,and_true]at e1 e2;subst e1 e2;exact⟨a1,l1,c1,a2,l2,c2,rfl,h1,h2⟩
theorem inv_any (v:Value) (b:Bool) (n d:Nat) (w:World) (h:zCd w v b n d) :
  Calls Tryz.prog 155 #[v] w fun e w'=>∃v',e=.returned v'∧zCd w' v' b d n∧Bw w w':=by
 obtain⟨a1,l1,c1,a2,l2,c2,rfl,h1,h2⟩:=h.form;have H1:=zAb h1;have H2:=zAb h2;clear h h1 h2;go_enter Tryz.func155,Tryz.ntmps155
 go_wp2
 have hb:Below w.heap.size w ((w.alloc (.cells #[.bool b,.slice a1 l1 c1,.slice a2 l2 c2] 82)).alloc (.cells #[.bool b,.slice a2 l2 c2,.slice a1 l1 c1] 82)):=bA.alloc (by simp) _;exact bodyPost_ret (v:=.agg #[.bool b,.slice a2 l2 c2,.slice a1 l1 c1]) (by simp[results,Tryz.results155,go_sem]) rfl ⟨_,rfl,⟨_,_,rfl,(un H2).later hb,(un H1).later hb⟩,hb⟩
def signI (b:Bool) (n:Nat):Int:=if b then -1 else if n=0 then 0 else 1
theorem sign_any (v:Value) (b:Bool) (n d:Nat) (w:World) (h:zCd w v b n d) :
  Calls Tryz.prog 68 #[v] w fun e w'=>e=.returned (I (signI b n))∧Bw w w':=by
 obtain⟨a1,l1,c1,a2,l2,c2,rfl,h1,h2⟩:=h.form;have hb:Below w.heap.size w (w.alloc (.cells #[.bool b,.slice a1 l1 c1,.slice a2 l2 c2] 82)):=bA;have H37:=zAb (zCk _ n _ (h1.later hb));have HB:=zAb hb;clear h h1 h2 hb
 cases b with
 | true=>
  go_enter Tryz.func68,Tryz.ntmps68
  go_wp2
  go_ret
  exact⟨rfl,un HB⟩
 | false=>
  by_cases hn:n=0
  ·subst hn
   go_enter Tryz.func68,Tryz.ntmps68
   go_wp2_with (go_at_call 153;go_must(refine(un H37).mono ?_;rintro e w1 ⟨rfl,hb1⟩;have HB1:=zAb (bt HB hb1);clear hb1))
   go_ret
   exact⟨rfl,un HB1⟩
  ·have e:(n == 0)=false:=by rw[beq_eq_false_iff_ne];exact hn
   have HE:Hid (signI false n=1):=by show _=_;simp[signI,hn]
   rw[e]at H37;rw[un HE];clear e hn HE;go_enter Tryz.func68,Tryz.ntmps68
   go_wp2_with (go_at_call 153;go_must(refine(un H37).mono ?_;rintro e w1 ⟨rfl,hb1⟩;have HB1:=zAb (bt HB hb1);clear hb1))
   go_ret
   exact⟨rfl,un HB1⟩
def OfInv (u:Nat) (L:List Nat) (q:Nat):Prop:=Cub.limbs 1000000000 L∧Cub.lval 1000000000 L+1000000000 ^ L.length*q=u∧(q=0→Cub.normal 1000000000 L)
theorem OfInv.start (u:Nat):OfInv u [] u:=⟨fun _ h=>(by cases h),by simp[Cub.lval],fun _=>Cub.normal_nil _⟩
theorem OfInv.step {u:Nat} {L:List Nat} {q:Nat} (h:OfInv u L q) (hq:0<q):OfInv u (L ++ [q % 1000000000]) (q / 1000000000):=by
 obtain⟨h1,h2,h3⟩:=h;have hl:Cub.limbs 1000000000 (L ++ [q % 1000000000]):=Cub.limbs_append.2 ⟨h1,fun x hx=>by simp at hx;subst hx;exact Nat.mod_lt _ (by decide)⟩;refine⟨hl,?_,fun h0=>⟨hl,?_⟩⟩
 ·rw[Cub.lval_snoc,List.length_append,List.length_singleton,Nat.pow_succ,Nat.mul_assoc,Nat.add_assoc,←Nat.mul_add]
  rw[Nat.mod_add_div];exact h2
 ·rw[List.getLast?_append]
  simp
  omega
theorem OfInv.short {u:Nat} {L:List Nat} {q:Nat} (h:OfInv u L q) (hq:0<q) (hu:u<18446744073709551616):L.length≤2:=by
 have h2:=h.2.1;have h3:1000000000 ^ L.length≤1000000000 ^ L.length*q:=Nat.le_mul_of_pos_right _ hq
 apply Decidable.byContradiction
 intro hc;have h4:1000000000 ^ 3≤1000000000 ^ L.length:=Nat.pow_le_pow_right (by decide) (by omega)
 omega
theorem zFa (u:Nat) (w:World) (hu:u<18446744073709551616) :
  Calls Tryz.prog 210 #[.int .u64 (u:Int)] w fun e w'=>∃a n c,e=.returned (.agg #[.slice a n c])∧zAf w' (.agg #[.slice a n c]) u∧Bw w w':=by
 obtain⟨i0,hi,hz0,hz1,hz2⟩:=info_parts Tryz.info168;go_enter Tryz.func210,Tryz.ntmps210
 go_wp2
 go_loopw [0,3] (fun t v wr=>∃(q:Nat) (L:List Nat),t=.int .u64 (q:Int)∧q<18446744073709551616∧L.length≤3∧Hid (OfInv u L q)∧wr.ownsRow (w.heap.size+1) 168 1 v L.length (zCx L)∧Below (w.heap.size+1) (w.alloc (.cells #[.slice none 0 0] 80)) wr) (fun t _ _=>(intOf t).toNat)
 case atStart=>exact⟨u,[],rfl,hu,by simp,OfInv.start u,⟨rfl,Or.inl ⟨rfl,rfl⟩⟩,Below.refl _ _⟩
 case round=>
  obtain⟨q,L,rfl,hq,hL,HI,hown,hb⟩:=hrel
  by_cases h0:0<q
  ·have hL2:=(un HI).short h0 hu
   have HI':=zAb ((un HI).step h0);have hr:q % 1000000000<1000000000:=Nat.mod_lt _ (by decide)
   go_wp2_with (at_builtin;refine wpList_append_own _ rfl _ _ 78 rfl (w.heap.size+1) 168 i0 (.int .u64 0) 1 8 Tryz.underlying78 hi hz0 hz1 hz2 rfl (by decide) _ _ _ rfl (hown.alloc _) ⟨wr.heap.size,0,none⟩ 1 1 [.int .u64 ((q % 1000000000:Nat):Int)] rfl rfl (cell_one_new _ _ _) (fun x hx=>by simp at hx;subst hx;rfl) (by unfold maxLen;omega) (by omega) (by have:=hb.size;simp at this ⊢;omega) ?_;intro v' w1 hown' hgrow _)
   have hsz:=hb.size;have hb':Below (w.heap.size+1) (w.alloc (.cells #[.slice none 0 0] 80)) w1:=(hb.alloc (by simp at hsz;omega) _).grown hgrow (by simp at hsz ⊢;omega) (fun j hj=>(hown.lt j hj).1);have hown2:w1.ownsRow (w.heap.size+1) 168 1 v' (L ++ [q % 1000000000]).length (zCx (L ++ [q % 1000000000])):=by simpa [zCx] using hown'
   clear hgrow hown' hown hsz
   go_wp2
   go_roundw
   case rel=>exact⟨q / 1000000000,L ++ [q % 1000000000],by go_num,by omega,by simp;omega,HI',hown2,hb'⟩
   case measure=>simp[intOf];omega
  ·have hq0:q=0:=by omega
   subst hq0;have hrow:=Row.of_own hown;have HF:Hid (Cub.lval 1000000000 L=u∧Cub.normal 1000000000 L):=⟨by have:=(un HI).2.1;simpa using this,(un HI).2.2 rfl⟩;have hsz:w.heap.size+1≤wr.heap.size:=by have:=hb.size;simpa using this
   have hc0:wr.cell? ⟨w.heap.size,0,none⟩=some (.slice none 0 0):=by rw[hb.cell (p:=⟨w.heap.size,0,none⟩) (by simp)];simp
   have hf0:wr.frozen? ⟨w.heap.size,0,none⟩=false:=by rw[hb.frozen (p:=⟨w.heap.size,0,none⟩) (by simp)];simp
   obtain⟨a2,cap2,rfl,hcap2⟩:=hrow.form;have HRow:=zAb hrow;clear hrow hown
   go_wp2
   refine bodyPost_ret (v:=.agg #[.slice a2 L.length cap2]) (by simp[results,Tryz.results210,go_sem,hc0]) rfl ⟨_,_,_,rfl,?_,?_⟩
   ·exact⟨_,_,rfl,(un HRow).box _ hc0 (fun _ _ h=>by cases h),(un HF).2,(un HF).1⟩
   ·exact(bA.trans (hb.mono (Nat.le_succ _))).setCell (Nat.le_refl _) _
structure FBox (W:World) (g:Nat) (x y z:Value):Prop where
 c0:W.cell? ⟨g,0,none⟩=some x
 c1:W.cell? ⟨g,1,none⟩=some y
 c2:W.cell? ⟨g,2,none⟩=some z
 f0:W.frozen? ⟨g,0,none⟩=false
 f1:W.frozen? ⟨g,1,none⟩=false
 f2:W.frozen? ⟨g,2,none⟩=false
theorem FBox.lt {W:World} {g:Nat} {x y z:Value} (h:FBox W g x y z):g<W.heap.size:=World.block_lt_of_cell? _ _ h.c0
theorem FBox.later {W V:World} {g:Nat} {x y z:Value} (h:FBox W g x y z) (hb:Below W.heap.size W V):FBox V g x y z :=
 ⟨(hb.cell (p:=⟨g,0,none⟩) h.lt).trans h.c0,(hb.cell (p:=⟨g,1,none⟩) h.lt).trans h.c1,(hb.cell (p:=⟨g,2,none⟩) h.lt).trans h.c2,
  (hb.frozen (p:=⟨g,0,none⟩) h.lt).trans h.f0,(hb.frozen (p:=⟨g,1,none⟩) h.lt).trans h.f1,(hb.frozen (p:=⟨g,2,none⟩) h.lt).trans h.f2⟩
def zAs (W:World) (g:Nat) (x y z:Value):World:=((W.setCell ⟨g,0,none⟩ x).setCell ⟨g,1,none⟩ y).setCell ⟨g,2,none⟩ z
theorem FBox.store {W:World} {g:Nat} {x y z:Value} (h:FBox W g x y z) (x' y' z':Value):FBox (zAs W g x' y' z') g x' y' z':=by
 have a1:(W.setCell ⟨g,0,none⟩ x').cell? ⟨g,1,none⟩=some y:=by rw[World.cell?_setCell_other _ _ _ _ (by simp)];exact h.c1
 have a2:((W.setCell ⟨g,0,none⟩ x').setCell ⟨g,1,none⟩ y').cell? ⟨g,2,none⟩=some z:=by rw[World.cell?_setCell_other _ _ _ _ (by simp),World.cell?_setCell_other _ _ _ _ (by simp)];exact h.c2
 unfold zAs;refine⟨?_,?_,World.cell?_setCell_same _ _ _ a2,?_,?_,?_⟩
 ·rw[World.cell?_setCell_other _ _ _ _ (by simp),World.cell?_setCell_other _ _ _ _ (by simp)];exact World.cell?_setCell_same _ _ _ h.c0
 ·rw[World.cell?_setCell_other _ _ _ _ (by simp)];exact World.cell?_setCell_same _ _ _ a1
 ·rw[World.frozen?_setCell,World.frozen?_setCell,World.frozen?_setCell];exact h.f0
 ·rw[World.frozen?_setCell,World.frozen?_setCell,World.frozen?_setCell];exact h.f1
 ·rw[World.frozen?_setCell,World.frozen?_setCell,World.frozen?_setCell];exact h.f2
theorem FBox.big {W:World} {g:Nat} {b:Bool} {a1 a2:Option Addr} {l1 c1 l2 c2:Nat} (h:FBox W g (.bool b) (.slice a1 l1 c1) (.slice a2 l2 c2)) (x' y' z':Value) {v:Value} {n:Nat} (hv:zAf W v n):zAf (zAs W g x' y' z') v n:=by
 have e1:(W.setCell ⟨g,0,none⟩ x').cell? ⟨g,1,none⟩=some (.slice a1 l1 c1):=by rw[World.cell?_setCell_other _ _ _ _ (by simp)];exact h.c1
 have e2:((W.setCell ⟨g,0,none⟩ x').setCell ⟨g,1,none⟩ y').cell? ⟨g,2,none⟩=some (.slice a2 l2 c2):=by rw[World.cell?_setCell_other _ _ _ _ (by simp),World.cell?_setCell_other _ _ _ _ (by simp)];exact h.c2
 exact((hv.box _ h.c0 (fun _ _ e=>by cases e)).box _ e1 (zAp _ _ _)).box _ e2 (zAp _ _ _)
theorem zAq {B g:Nat} {w W:World} (h:Below B w W) (hg:B≤g) (x y z:Value):Below B w (zAs W g x y z) :=
 ((h.setCell (p:=⟨g,0,none⟩) hg x).setCell (p:=⟨g,1,none⟩) hg y).setCell (p:=⟨g,2,none⟩) hg z
theorem whole_any (u:Nat) (w:World) (hu:u<18446744073709551616) :
  Calls Tryz.prog 154 #[.int .u64 (u:Int)] w fun e w'=>∃v',e=.returned v'∧zCd w' v' false u 1∧Bw w w':=by
 have HB0:Hid (Bw w (w.alloc (.cells #[.bool false,.slice none 0 0,.slice none 0 0] 82))):=bA;have H1:=zAb (zFa u (w.alloc (.cells #[.bool false,.slice none 0 0,.slice none 0 0] 82)) hu);have H2:=zAb (fun W=>zFa 1 W (by omega))
 have HC:Hid (∀W,Below (w.heap.size+1) (w.alloc (.cells #[.bool false,.slice none 0 0,.slice none 0 0] 82)) W→W.cell? ⟨w.heap.size,0,none⟩=some (.bool false)∧W.cell? ⟨w.heap.size,1,none⟩=some (.slice none 0 0)∧W.cell? ⟨w.heap.size,2,none⟩=some (.slice none 0 0)∧W.frozen? ⟨w.heap.size,0,none⟩=false∧W.frozen? ⟨w.heap.size,1,none⟩=false∧W.frozen? ⟨w.heap.size,2,none⟩=false):=fun W hb=>by
  refine⟨?_,?_,?_,?_,?_,?_⟩
  ·rw[hb.cell (p:=⟨w.heap.size,0,none⟩) (show w.heap.size<w.heap.size+1 by omega)];simp[go_sem]
  ·rw[hb.cell (p:=⟨w.heap.size,1,none⟩) (show w.heap.size<w.heap.size+1 by omega)];simp[go_sem]
  ·rw[hb.cell (p:=⟨w.heap.size,2,none⟩) (show w.heap.size<w.heap.size+1 by omega)];simp[go_sem]
  ·rw[hb.frozen (p:=⟨w.heap.size,0,none⟩) (show w.heap.size<w.heap.size+1 by omega)];simp[go_sem]
  ·rw[hb.frozen (p:=⟨w.heap.size,1,none⟩) (show w.heap.size<w.heap.size+1 by omega)];simp[go_sem]
  ·rw[hb.frozen (p:=⟨w.heap.size,2,none⟩) (show w.heap.size<w.heap.size+1 by omega)];simp[go_sem]
 clear hu;go_enter Tryz.func154,Tryz.ntmps154
 go_wp2_with (first
  | (go_at_call_of 210 (Value.int .u64 (u:Int));go_must(refine(un H1).mono ?_;rintro e w1 ⟨a1,l1,c1,rfl,hv1,hb1⟩;have HV1:=zAb hv1;have HB1:=zAb hb1;have hs1:=hb1.size;clear hv1 hb1))
  | (go_at_call 210;go_must(refine(un H2 w1).mono ?_;rintro e w2 ⟨a2,l2,c2,rfl,hv2,hb2⟩;have HV2:=zAb hv2;have HV1':=zAb ((un HV1).later hb2);have HB2:=zAb ((un HB1).trans (hb2.mono hs1));have h1:w.heap.size+1≤(w.alloc (.cells #[.bool false,.slice none 0 0,.slice none 0 0] 82)).heap.size:=(by simp);obtain⟨q0,q1,q2,g0,g1,g2⟩:=un HC w2 ((un HB2).mono h1);clear hv2 hb2)))
 have hF:FBox w2 w.heap.size (.bool false) (.slice none 0 0) (.slice none 0 0):=⟨q0,q1,q2,g0,g1,g2⟩;have hS:=hF.store (.bool false) (.slice a1 l1 c1) (.slice a2 l2 c2);have hb:Below w.heap.size w (zAs w2 w.heap.size (.bool false) (.slice a1 l1 c1) (.slice a2 l2 c2)):=zAq ((un HB0).trans ((un HB2).mono (by simp))) (Nat.le_refl _) _ _ _;have r0:=hS.c0;have r1:=hS.c1;have r2:=hS.c2;exact bodyPost_ret (v:=.agg #[.bool false,.slice a1 l1 c1,.slice a2 l2 c2]) (w:=zAs w2 w.heap.size (.bool false) (.slice a1 l1 c1) (.slice a2 l2 c2)) (by simp[results,Tryz.results154,go_sem,r0,r1,r2]) rfl ⟨_,rfl,⟨_,_,rfl,hF.big _ _ _ (un HV1'),hF.big _ _ _ (un HV2)⟩,hb⟩
theorem FBox.other {W:World} {g k:Nat} {x y z:Value} (h:FBox W g x y z) (hk:g≠k) (u:Value):FBox (W.setCell ⟨k,0,none⟩ u) g x y z :=
 ⟨by rw[World.cell?_setCell_other _ _ _ _ (by intro e;cases e;exact hk rfl)];exact h.c0,by rw[World.cell?_setCell_other _ _ _ _ (by intro e;cases e)];exact h.c1,by rw[World.cell?_setCell_other _ _ _ _ (by intro e;cases e)];exact h.c2,
  by rw[World.frozen?_setCell];exact h.f0,by rw[World.frozen?_setCell];exact h.f1,by rw[World.frozen?_setCell];exact h.f2⟩
end Go.Proofs.YtliadckofhblnaaGreatDoor
namespace Cub
theorem takeB (B:Nat) (l:List Nat) (i:Nat):lval B (l.take (i+1))=lval B (l.take i)+B ^ i*l.getD i 0:=by
 by_cases h:i<l.length
 ·rw[List.take_succ_eq_append_getElem h,lval_snoc,List.length_take,Nat.min_eq_left (by omega)]
  simp[List.getD,h]
 ·rw[List.take_of_length_le (by omega),List.take_of_length_le (by omega)]
  simp[List.getD,Nat.le_of_not_lt h]
end Cub

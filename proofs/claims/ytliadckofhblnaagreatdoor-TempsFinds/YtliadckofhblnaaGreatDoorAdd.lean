/- (Big).Add: the sum. -/
import Derived.RowKit
import Derived.Below
import Derived.Lib.ItoaNum
import Derived.Test.YtliadckofhblnaaGreatDoorProg
import Derived.WalkKit
import Derived.WalkSpells
import Derived.WalkLawsBesides
import Derived.Lib.Strings
import Derived.Laws.CopyOwn
import Derived.Lib.SmallJoins
import Derived.OneCell
import Derived.Lib.AppendIntMem
import Derived.Shelf.Small.Bits
import Derived.Shelf.Small.Wraps
import Derived.Shelf.Strconv.Itoa0
import Derived.Shelf.Strconv.Itoa1
import Derived.Shelf.LaysM
import Derived.Shelf.Strconv.Itoa2
import Derived.Shelf.Strconv.AppendUint10
import Derived.Shelf.Strconv.AppendInt10
import Derived.Shelf.Strings.Prefix
import Derived.Ground.Names2Prog
import Derived.Shelf.Slices.SearchI
import Derived.Test.YtliadckofhblnaaGreatDoorCards
import Derived.Test.YtliadckofhblnaaGreatDoorTie
import Derived.ProofKit
import Derived.OpenShut
import Derived.ChangeSame
import Derived.Deep.DeepHandedRow
import Derived.Lib.LaidTab
import Derived.LaidSub
import Derived.LaidLaws
import Derived.Carry
import Derived.Deep.RegionWith
import Derived.Lib.ItoaMem
set_option maxHeartbeats 1000000
set_option maxRecDepth 100000
namespace Go.Proofs.YtliadckofhblnaaGreatDoor
open Go.RowKit
abbrev I (x : Int) : Value := .int .i64 x
abbrev J (a b c d e f g h i j : Int) : Array Value := #[I a, I b, I c, I d, I e, I f, I g, I h, I i, I j]
abbrev G (l : Array UInt8) : Value := .string ⟨l⟩
theorem bA {w : World} {o : Obj} : Below w.heap.size w (w.alloc o) := (Below.refl _ _).alloc (Nat.le_refl _) _
theorem bt {a b c : World} (h : Hid (Below a.heap.size a b)) (k : Below b.heap.size b c) : Below a.heap.size a c := h.out.trans (k.mono h.out.size)
abbrev Bw (a b : World) : Prop := Below a.heap.size a b
abbrev C10 (w : World) (g : Nat) (a b c d e f x y z u : Value) : Prop := w.cell? ⟨g, 0, none⟩ = some a ∧ w.cell? ⟨g, 1, none⟩ = some b ∧ w.cell? ⟨g, 2, none⟩ = some c ∧ w.cell? ⟨g, 3, none⟩ = some d ∧ w.cell? ⟨g, 4, none⟩ = some e ∧ w.cell? ⟨g, 5, none⟩ = some f ∧ w.cell? ⟨g, 6, none⟩ = some x ∧ w.cell? ⟨g, 7, none⟩ = some y ∧ w.cell? ⟨g, 8, none⟩ = some z ∧ w.cell? ⟨g, 9, none⟩ = some u
end Go.Proofs.YtliadckofhblnaaGreatDoor
namespace Cub
def dval (l:List UInt8):Nat:=l.foldl (fun n c=>10*n+(c.toNat - 48)) 0
theorem dval_nil:dval []=0:=rfl
theorem dval_snoc (l:List UInt8) (c:UInt8):dval (l ++ [c])=10*dval l+(c.toNat - 48):=by
  unfold dval;rw[List.foldl_append];rfl
theorem foldl_val (l:List UInt8):∀a:Nat,l.foldl (fun n c=>10*n+(c.toNat - 48)) a=a*10 ^ l.length+dval l:=by
  unfold dval
  induction l with
  | nil=>intro a;simp
  | cons c l ih=>
    intro a
    simp only[List.foldl_cons,List.length_cons]
    rw[ih,ih (10*0+(c.toNat - 48)),Nat.pow_succ]
    rw[Nat.add_mul]
    have:10*a*10 ^ l.length=a*(10 ^ l.length*10):=by
      rw[Nat.mul_comm 10 a,Nat.mul_assoc,Nat.mul_comm 10]
    rw[this]
    simp only[Nat.mul_zero,Nat.zero_add]
    rw[Nat.add_assoc]
theorem dval_append (a b:List UInt8):dval (a ++ b)=dval a*10 ^ b.length+dval b:=by
  have:=foldl_val b (dval a)
  rw[←this];unfold dval;rw[List.foldl_append]
theorem dval_cons (c:UInt8) (l:List UInt8):dval (c :: l)=(c.toNat - 48)*10 ^ l.length+dval l:=by
  have:=dval_append [c] l
  simpa [dval] using this
def digs (l:List UInt8):Prop:=∀c∈l,48≤c.toNat∧c.toNat≤57
theorem digs_nil:digs []:=by intro c h;cases h
theorem zFj {a b:List UInt8}:digs (a ++ b)↔digs a∧digs b:=by
  unfold digs
  constructor
  · intro h;exact⟨fun c hc=>h c (List.mem_append_left _ hc),fun c hc=>h c (List.mem_append_right _ hc)⟩
  · rintro⟨h1,h2⟩ c hc
    rcases List.mem_append.1 hc with h|h
    · exact h1 c h
    · exact h2 c h
theorem dval_lt {l:List UInt8} (h:digs l):dval l<10 ^ l.length:=by
  induction l with
  | nil=>simp[dval]
  | cons c l ih=>
    have hc:=h c (by simp)
    have:=ih (fun d hd=>h d (List.mem_cons_of_mem _ hd))
    rw[dval_cons,List.length_cons,Nat.pow_succ]
    have h2:(c.toNat - 48)*10 ^ l.length≤9*10 ^ l.length:=Nat.mul_le_mul_right _ (by omega)
    omega
def isNat (l:List UInt8):Prop:=digs l∧l≠[]∧(l.head?=some 48→l.length=1)
theorem ofNat_toNat (c:UInt8):UInt8.ofNat c.toNat=c:=by simp
theorem zJr {l:List UInt8} (h:isNat l) (h2:2≤l.length):10 ^ (l.length - 1)≤dval l:=by
  obtain⟨hd,hne,hz⟩:=h
  cases l with
  | nil=>simp at h2
  | cons c t=>
    have hc:=hd c (by simp)
    have hc2:c.toNat≠48:=by
      intro e
      have e2:c=48:=by rw[←ofNat_toNat c,e];rfl
      have:=hz (by simp[e2])
      simp at this h2
      rw[this]at h2;simp at h2
    rw[dval_cons]
    have:1*10 ^ t.length≤(c.toNat - 48)*10 ^ t.length:=Nat.mul_le_mul_right _ (by omega)
    simp at this ⊢
    omega
theorem isNat_init {l:List UInt8} {c:UInt8} (h:isNat (l ++ [c])) (hl:l≠[]):isNat l:=by
  obtain⟨hd,hne,hz⟩:=h
  refine⟨(zFj.1 hd).1,hl,fun e=>?_⟩
  cases l with
  | nil=>exact absurd rfl hl
  | cons a t=>
    have:=hz (by simpa using e)
    simp at this
theorem dec_dval:∀(n:Nat) (l:List UInt8),l.length=n→isNat l→Go.Lib.decDigits (dval l)=l:=by
  intro n
  induction n with
  | zero=>intro l e h;exact absurd (List.length_eq_zero_iff.1 e) h.2.1
  | succ n ih =>
    intro l e h
    rcases List.eq_nil_or_concat l with h0|⟨t,c,rfl⟩
    · exact absurd h0 h.2.1
    · rw[List.concat_eq_append]at e h ⊢
      have hc:=(zFj.1 h.1).2 c (by simp)
      by_cases ht:t=[]
      · subst ht
        have e1:dval ([] ++ [c])=c.toNat - 48:=by simp[dval]
        rw[e1,Go.Lib.decDigits_one (by omega)]
        have:48+(c.toNat - 48)=c.toNat:=by omega
        rw[this,ofNat_toNat];rfl
      · have hi := isNat_init h ht
        have hl:t.length=n:=by simpa using e
        have hpos:1≤dval t:=by
          by_cases h2:2≤t.length
          · have:=zJr hi h2
            have hp:1≤10 ^ (t.length - 1):=Nat.one_le_pow _ _ (by decide)
            omega
          · have h1:t.length=1:=by
              cases t with
              | nil=>exact absurd rfl ht
              | cons a t=>simp at h2 ⊢;omega
            -- one digit, not a nought
            cases t with
            | nil=>exact absurd rfl ht
            | cons a t=>
              have:t=[]:=by simpa using h1
              subst this
              have ha:=(zFj.1 h.1).1 a (by simp)
              have hne:a.toNat≠48:=by
                intro ea
                have ea2:a=48:=by rw[←ofNat_toNat a,ea];rfl
                have:=h.2.2 (by simp[ea2])
                simp at this
              simp[dval];omega
        rw[dval_snoc,Go.Lib.decDigits,dif_neg (by omega)]
        have d1:(10*dval t+(c.toNat - 48)) / 10=dval t:=by omega
        have d2:(10*dval t+(c.toNat - 48)) % 10=c.toNat - 48:=by omega
        rw[d1,d2,ih t hl hi]
        have:48+(c.toNat - 48)=c.toNat:=by omega
        rw[this,ofNat_toNat]
theorem toNat_dig (k:Nat) (h:k<10):(UInt8.ofNat (48+k)).toNat=48+k:=by
  rw[UInt8.toNat_ofNat'];omega
theorem dval_dec (n:Nat):dval (Go.Lib.decDigits n)=n:=by
  induction n using Nat.strongRecOn with
  | _ n ih=>
    by_cases h:n<10
    · rw[Go.Lib.decDigits_one h,show [UInt8.ofNat (48+n)]=[] ++ [UInt8.ofNat (48+n)]from rfl,dval_snoc,toNat_dig n h,dval_nil];omega
    · rw[Go.Lib.decDigits,dif_neg h,dval_snoc,ih (n / 10) (by omega),toNat_dig _ (by omega)];omega
theorem dec_ne_nil (n:Nat):Go.Lib.decDigits n≠[]:=by
  rw[Go.Lib.decDigits];split<;>simp
theorem dec_digs (n:Nat):digs (Go.Lib.decDigits n):=by
  induction n using Nat.strongRecOn with
  | _ n ih=>
    by_cases h:n<10
    · rw[Go.Lib.decDigits_one h];intro c hc;rw[List.mem_singleton]at hc;subst hc;rw[toNat_dig n h];omega
    · rw[Go.Lib.decDigits,dif_neg h,zFj]
      refine⟨ih _ (by omega),?_⟩
      intro c hc;rw[List.mem_singleton]at hc;subst hc;rw[toNat_dig _ (by omega)];omega
theorem dec_head (n:Nat):(Go.Lib.decDigits n).head?=some 48→n=0:=by
  induction n using Nat.strongRecOn with
  | _ n ih=>
    by_cases h:n<10
    · rw[Go.Lib.decDigits_one h];intro e
      rw[List.head?_cons,Option.some.injEq]at e
      have:=congrArg UInt8.toNat e
      rw[toNat_dig n h]at this
      have e48:(48:UInt8).toNat=48:=by decide
      omega
    · rw[Go.Lib.decDigits,dif_neg h]
      intro e
      have h2:(Go.Lib.decDigits (n / 10)).head?=some 48:=by
        cases hd:Go.Lib.decDigits (n / 10)with
        | nil=>exact absurd hd (dec_ne_nil _)
        | cons a t=>rw[hd]at e;simpa using e
      have:=ih (n / 10) (by omega) h2
      omega
theorem isNat_dec (n:Nat):isNat (Go.Lib.decDigits n):=by
  refine⟨dec_digs n,dec_ne_nil n,fun e=>?_⟩
  have:=dec_head n e
  subst this;decide +kernel
theorem dec_inj {m n:Nat} (h:Go.Lib.decDigits m=Go.Lib.decDigits n):m=n:=by
  have:=congrArg dval h;rwa [dval_dec,dval_dec]at this
theorem dec_len_lt (n k:Nat) (hk:1≤k):(Go.Lib.decDigits n).length≤k↔n<10 ^ k:=by
  rw[Go.Lib.decDigits_length]
  constructor
  · intro h
    have h1:=Go.Lib.lt_pow_nDigits n
    exact Nat.lt_of_lt_of_le h1 (Nat.pow_le_pow_right (by decide) h)
  · intro h
    have hn:=isNat_dec n
    by_cases h2:2≤(Go.Lib.decDigits n).length
    · have:=zJr hn h2
      rw[dval_dec]at this
      have h3:=Nat.lt_of_le_of_lt this h
      have h4:=(Nat.pow_lt_pow_iff_right (by decide:1<10)).1 h3
      rw[Go.Lib.decDigits_length]at h4;omega
    · rw[Go.Lib.decDigits_length]at h2;omega
def digB (c:UInt8):Bool:=decide (48≤c.toNat∧c.toNat≤57)
def natB (l:List UInt8):Bool:=l.all digB && (!l.isEmpty && (l.head? != some 48 || l.length == 1))
def rightB (l:List UInt8):Bool:=natB l && decide (l.length≤600)
theorem all_digB (l:List UInt8):l.all digB=true↔digs l:=by
  simp[digB,digs]
theorem natB_iff (l:List UInt8):natB l=true↔isNat l:=by
  unfold natB isNat
  rw[Bool.and_eq_true,all_digB]
  refine and_congr_right fun _=>?_
  cases l with
  | nil=>simp
  | cons c t=>simp;exact Decidable.imp_iff_not_or.symm
theorem rightB_iff (l:List UInt8):rightB l=true↔isNat l∧l.length≤600:=by
  unfold rightB;rw[Bool.and_eq_true,natB_iff];simp
theorem rightB_empty (l:List UInt8) (h:l.length=0):rightB l=false:=by
  rw[List.length_eq_zero_iff]at h;subst h;rfl
theorem rightB_long (l:List UInt8) (h:600<l.length):rightB l=false:=by
  unfold rightB;simp;intro _;omega
theorem natB_zero (l:List UInt8) (h:l.head?=some 48) (h2:1<l.length):natB l=false:=by
  cases hb:natB l with
  | false=>rfl
  | true=>have:=((natB_iff l).1 hb).2.2 h;omega
theorem rightB_zero (l:List UInt8) (h:l.head?=some 48) (h2:1<l.length):rightB l=false:=by
  unfold rightB;rw[natB_zero l h h2];rfl
theorem natB_bad (l:List UInt8) (k:Nat) (hk:k<l.length) (h:¬(48≤l[k].toNat∧l[k].toNat≤57)):natB l=false:=by
  cases hb:natB l with
  | false=>rfl
  | true=>exact absurd (((natB_iff l).1 hb).1 l[k] (List.getElem_mem hk)) h
theorem rightB_bad (l:List UInt8) (k:Nat) (hk:k<l.length) (h:¬(48≤l[k].toNat∧l[k].toNat≤57)):rightB l=false:=by
  unfold rightB;rw[natB_bad l k hk h];rfl
theorem natB_good (l:List UInt8) (h0:0<l.length) (h1:l.head?=some 48→l.length=1) (h:∀j (hj:j<l.length),48≤l[j].toNat∧l[j].toNat≤57):natB l=true:=by
  rw[natB_iff]
  refine⟨fun c hc=>?_,fun e=>(by rw[e]at h0;simp at h0),h1⟩
  obtain⟨j,hj,rfl⟩:=List.getElem_of_mem hc
  exact h j hj
theorem rightB_good (l:List UInt8) (h0:0<l.length) (h6:l.length≤600) (h1:l.head?=some 48→l.length=1) (h:∀j (hj:j<l.length),48≤l[j].toNat∧l[j].toNat≤57):rightB l=true:=by
  unfold rightB;rw[natB_good l h0 h1 h];simpa using h6
end Cub
namespace Go.Proofs.YtliadckofhblnaaGreatDoor
open Go.RowKit
theorem zAb {p:Prop} (h:p):Hid p:=h
theorem un {p:Prop} (h:Hid p):p:=h
theorem zBq (s:ByteArray):s.data.toList.length=s.size:=Array.length_toList
theorem list_get (s:ByteArray) (k:Nat) (hk:k<s.size):s.data.toList[k]'(by rw[zBq];exact hk)=s[k]:=rfl
theorem list_head (s:ByteArray) (h:0<s.size):s.data.toList.head?=some s[0]:=by
  rw[List.head?_eq_getElem?,List.getElem?_eq_getElem (by rw[zBq];exact h)];rfl
theorem byte_48 (c:UInt8):((c.toNat:Int)=48)↔c=48:=by
  constructor
  · intro h
    have:c.toNat=48:=by omega
    rw[←Cub.ofNat_toNat c,this];rfl
  · intro h;subst h;rfl
theorem zHy (s:ByteArray) (w:World) (hs:s.size≤maxLen) :
    Calls Tryz.prog 186 #[.string s] w fun e w'=>e=.returned (.bool (Cub.rightB s.data.toList))∧w'=w:=by
  unfold maxLen at hs
  by_cases h0:s.size=0
  · have hf:=Cub.rightB_empty s.data.toList (by rw[zBq];exact h0)
    rw[hf];have hz:((s.size:Int) == 0)=true:=by rw[h0];rfl
    clear hf h0;go_enter Tryz.func186,Tryz.ntmps186
    go_wp2
    go_ret
    exact⟨rfl,rfl⟩
  · have hz : ((s.size:Int) == 0)=false:=by rw[beq_eq_false_iff_ne];omega
    by_cases h6:600<s.size
    · have hf:=Cub.rightB_long s.data.toList (by rw[zBq];exact h6)
      rw[hf];clear hf;go_enter Tryz.func186,Tryz.ntmps186
      go_wp2
      go_ret
      exact⟨rfl,rfl⟩
    · have hp : 0 < s.size:=by omega
      by_cases hc:s[0]=48∧1<s.size
      · have hf:=Cub.rightB_zero s.data.toList (by rw[list_head s hp,hc.1]) (by rw[zBq];exact hc.2)
        rw[hf];have h48:((s[0].toNat:Int) == 48)=true:=by rw[beq_iff_eq];exact(byte_48 _).2 hc.1
        have h1:=hc.2;clear hf hc h0;go_enter Tryz.func186,Tryz.ntmps186
        go_wp2
        go_ret
        exact⟨rfl,rfl⟩
      · have hh : s.data.toList.head?=some 48→s.data.toList.length=1:=by
          intro e;rw[list_head s hp,Option.some.injEq]at e;rw[zBq]
          by_cases h1:1<s.size
          · exact absurd ⟨e,h1⟩ hc
          · omega
        have HH:=zAb hh;have h6':s.size≤600:=by omega
        have hpk:(((s[0].toNat:Int) == 48)=true∧¬ 1<s.size)∨((s[0].toNat:Int) == 48)=false:=by
          by_cases e:s[0]=48
          · exact Or.inl ⟨by rw[beq_iff_eq];exact(byte_48 _).2 e,fun h=>hc ⟨e,h⟩⟩
          · exact Or.inr (by rw[beq_eq_false_iff_ne];exact fun h=>e ((byte_48 _).1 h))
        clear hh h0 hc h6;rcases hpk with ⟨h48,h1⟩|h48
        all_goals
          go_enter Tryz.func186,Tryz.ntmps186
          go_wp2
          go_loop [24] (fun i=>∃k:Nat,k≤s.size∧i=I k∧∀j (hj:j<s.size),j<k→Hid (48≤s[j].toNat∧s[j].toNat≤57)) (fun i=>s.size - (intOf i).toNat)
          case atStart=>exact⟨0,Nat.zero_le _,rfl,fun j _ h=>absurd h (Nat.not_lt_zero _)⟩
          case round=>
            obtain⟨k,hk,rfl,hall⟩:=hrel;have HA:=zAb hall;clear hall
            by_cases hlt:k<s.size
            · by_cases hd:48≤s[k].toNat∧s[k].toNat≤57
              · obtain⟨d1,d2⟩:=hd
                go_wp2
                go_round
                case rel=>exact⟨k+1,by omega,by go_num,fun j hj h=>(by
                  by_cases e:j<k
                  · exact un HA j hj e
                  · have:j=k:=by omega
                    subst this;exact⟨d1,d2⟩)⟩
                case measure=>simp[intOf];omega
              · have hf:=Cub.rightB_bad s.data.toList k (by rw[zBq];exact hlt) hd
                have HF:=zAb hf;clear hf
                by_cases d1:48≤s[k].toNat
                · have d2:57<s[k].toNat:=by omega
                  clear hd
                  go_wp2
                  go_ret
                  exact⟨by rw[un HF];rfl,rfl⟩
                · clear hd
                  go_wp2
                  go_ret
                  exact⟨by rw[un HF];rfl,rfl⟩
            · have e:k=s.size:=by omega
              have hf:=Cub.rightB_good s.data.toList (by rw[zBq];omega) (by rw[zBq];omega) (un HH) (fun j hj=>(un HA j (by rw[zBq]at hj;exact hj) (by rw[zBq]at hj;omega)).out);have HF:=zAb hf;clear hf e
              go_wp2
              go_ret
              exact⟨by rw[un HF];rfl,rfl⟩
theorem empty_of (s:ByteArray) (h:s.size=0):s.toList.isEmpty=true:=by
 rw[Lib.toList_data];have:s.data.toList=[]:=List.length_eq_zero_iff.1 (by rw[zBq];exact h);rw[this];rfl
theorem zJh (s:ByteArray) (h:0<s.size):s.toList.isEmpty=false:=by
 rw[Lib.toList_data]
 cases e:s.data.toList with
 | nil=>have:=zBq s;rw[e]at this;simp at this;omega
 | cons a t=>rfl
end Go.Proofs.YtliadckofhblnaaGreatDoor
namespace Cub
def lval (B:Nat):List Nat→Nat
 | []=>0
 | x :: l=>x+B*lval B l
def limbs (B:Nat) (l:List Nat):Prop:=∀x∈l,x<B
theorem lval_append (B:Nat) (a b:List Nat):lval B (a ++ b)=lval B a+B ^ a.length*lval B b:=by
 induction a with
 | nil=>simp[lval]
 | cons x a ih=>
  simp only[List.cons_append,lval,ih,List.length_cons,Nat.pow_succ]
  rw[Nat.mul_add,←Nat.mul_assoc,Nat.mul_comm B (B ^ a.length)];omega
theorem lval_snoc (B:Nat) (a:List Nat) (x:Nat):lval B (a ++ [x])=lval B a+B ^ a.length*x:=by
 rw[lval_append];simp[lval]
theorem limbs_append {B:Nat} {a b:List Nat}:limbs B (a ++ b)↔limbs B a∧limbs B b:=by
 unfold limbs
 constructor
 ·intro h;exact⟨fun c hc=>h c (List.mem_append_left _ hc),fun c hc=>h c (List.mem_append_right _ hc)⟩
 ·rintro⟨h1,h2⟩ c hc
  rcases List.mem_append.1 hc with h|h
  ·exact h1 c h
  ·exact h2 c h
theorem lval_lt {B:Nat} {l:List Nat} (h:limbs B l):lval B l<B ^ l.length:=by
 induction l with
 | nil=>simp[lval]
 | cons x l ih=>
  have hx:=h x (by simp)
  have:=ih (fun d hd=>h d (List.mem_cons_of_mem _ hd))
  simp only[lval,List.length_cons,Nat.pow_succ]
  have h2:B*(lval B l+1)≤B*B ^ l.length:=Nat.mul_le_mul_left _ this
  rw[Nat.mul_add]at h2
  rw[Nat.mul_comm (B ^ l.length)];omega
def normal (B:Nat) (l:List Nat):Prop:=limbs B l∧l.getLast?≠some 0
theorem normal_nil (B:Nat):normal B []:=⟨fun _ h=>(by cases h),by simp⟩
theorem normal_ge {B:Nat} {l:List Nat} (h:normal B l) (hne:l≠[]):B ^ (l.length - 1)≤lval B l:=by
 rcases List.eq_nil_or_concat l with h0|⟨t,c,rfl⟩
 ·exact absurd h0 hne
 ·rw[List.concat_eq_append]at *
  have hc:c≠0:=by intro e;apply h.2;simp[e]
  rw[lval_snoc]
  have:B ^ t.length*1≤B ^ t.length*c:=Nat.mul_le_mul_left _ (by omega)
  simp;omega
theorem normal_zero {B:Nat} {l:List Nat} (h:normal B l) (hB:0<B):lval B l=0↔l=[]:=by
 constructor
 ·intro e
  by_cases hne:l=[]
  ·exact hne
  ·have:=normal_ge h hne
   have hp:0<B ^ (l.length - 1):=Nat.pow_pos hB
   omega
 ·intro e;subst e;rfl
def trimN (l:List Nat):List Nat:=(l.reverse.dropWhile (· == 0)).reverse
theorem trimN_snoc_zero (l:List Nat):trimN (l ++ [0])=trimN l:=by unfold trimN;simp
theorem trimN_snoc (l:List Nat) (x:Nat) (h:x≠0):trimN (l ++ [x])=l ++ [x]:=by
 unfold trimN;simp[h]
theorem lval_trim (B:Nat):∀(n:Nat) (l:List Nat),l.length=n→lval B (trimN l)=lval B l∧(limbs B l→normal B (trimN l))∧∃k,l=trimN l ++ List.replicate k 0:=by
 intro n
 induction n with
 | zero=>intro l e;have:=List.length_eq_zero_iff.1 e;subst this;exact⟨rfl,fun _=>normal_nil B,0,rfl⟩
 | succ n ih=>
  intro l e
  rcases List.eq_nil_or_concat l with h0|⟨t,c,rfl⟩
  ·subst h0;simp at e
  ·rw[List.concat_eq_append]at *
   by_cases hc:c=0
   ·subst hc
    rw[trimN_snoc_zero]
    obtain⟨h1,h2,k,h3⟩:=ih t (by simpa using e)
    refine⟨by rw[h1,lval_snoc];simp,fun h=>h2 (limbs_append.1 h).1,k+1,?_⟩
    rw[List.replicate_succ',←List.append_assoc,←h3]
   ·rw[trimN_snoc t c hc]
    exact⟨rfl,fun h=>⟨h,by simpa using hc⟩,0,by simp⟩
end Cub
namespace Go.Proofs.YtliadckofhblnaaGreatDoor
open Go.RowKit
def zCx (l:List Nat):List Value:=l.map fun x:Nat=>Value.int .u64 (x:Int)
theorem u64s_length (l:List Nat):(zCx l).length=l.length:=by simp[zCx]
theorem u64s_get (l:List Nat) (i:Nat) (h:i<l.length):(zCx l)[i]?=some (.int .u64 (l[i]:Int)):=by simp[zCx,h]
def Row (w:World) (v:Value) (l:List Nat):Prop :=
  ∃a cap,v=.slice a l.length cap∧l.length≤cap∧cap≤maxLen∧(l≠[]→∃b o,a=some ⟨b,o,none⟩∧b<w.heap.size∧∀i (h:i<l.length),w.cell? ⟨b,o+i,none⟩=some (.int .u64 (l[i]:Int)))
theorem Row.later {w w':World} {v:Value} {l:List Nat} (h:Row w v l) (hb:Below w.heap.size w w'):Row w' v l:=by
  obtain⟨a,cap,rfl,hc,hm,hr⟩:=h;refine⟨a,cap,rfl,hc,hm,fun hne=>?_⟩;obtain⟨b,o,rfl,hlt,hcell⟩:=hr hne;have:=hb.size;exact⟨b,o,rfl,by omega,fun i hi=>(hb.cell (p:=⟨b,o+i,none⟩) hlt).trans (hcell i hi)⟩
theorem Row.nil (w:World):Row w (.slice none 0 0) []:=⟨none,0,rfl,Nat.le_refl _,Nat.zero_le _,fun h=>absurd rfl h⟩
theorem Row.take {w:World} {a:Option Addr} {n cap:Nat} {l:List Nat} (h:Row w (.slice a n cap) l) (k:Nat) (hk:k≤n):Row w (.slice a k cap) (l.take k):=by
  obtain⟨a',cap',e,hc,hm,hr⟩:=h;simp only[Value.slice.injEq]at e;obtain⟨rfl,rfl,rfl⟩:=e;have hl:(l.take k).length=k:=by rw[List.length_take];omega
  refine⟨a,cap,by rw[hl],by omega,hm,fun hne=>?_⟩;obtain⟨b,o,rfl,hlt,hcell⟩:=hr (fun e=>hne (by rw[e];simp));refine⟨b,o,rfl,hlt,fun i hi=>?_⟩;rw[List.getElem_take];exact hcell i (by omega)
theorem Row.of_own {w:World} {base:Nat} {v:Value} {n:Nat} {l:List Nat} (h:w.ownsRow base 168 1 v n (zCx l)):Row w v l:=by
  have hn:l.length=n:=by have:=h.1;rw[u64s_length]at this;omega
  rcases Joins.ownsRow_forms h with ⟨rfl,h0⟩|⟨g,cap,rfl⟩
  · have:l=[]:=List.length_eq_zero_iff.1 (by omega)
    subst this;exact Row.nil w
  · obtain⟨hx,h2⟩:=id h
    rcases h2 with ⟨e,_⟩|⟨g',cap',cur,e,hb,hg,hcap,hmax,hsz,htk⟩
    · cases e
    · simp only[Value.slice.injEq,Option.some.injEq,Addr.mk.injEq]at e
      obtain⟨⟨rfl,_⟩,_,rfl⟩:=e;refine⟨some ⟨g,0,none⟩,cap,by rw[hn],by omega,hmax,fun _=>⟨g,0,rfl,(Array.getElem?_eq_some_iff.1 hg).1,fun i hi=>?_⟩⟩;have:=h.cellAt i (by omega);rw[u64s_get l i hi]at this
      simpa using this
def zAf (w:World) (v:Value) (n:Nat):Prop:=∃s l,v=.agg #[s]∧Row w s l∧Cub.normal 1000000000 l∧Cub.lval 1000000000 l=n
theorem zAf.later {w w':World} {v:Value} {n:Nat} (h:zAf w v n) (hb:Below w.heap.size w w'):zAf w' v n:=by
  obtain⟨s,l,rfl,hr,hn,hv⟩:=h;exact⟨s,l,rfl,hr.later hb,hn,hv⟩
def Own (w:World) (g:Nat) (l:List Nat):Prop:=w.heap[g]?=some (.cells (zCx l).toArray 168 (0,0))
theorem Own.of_row {w:World} {base g n:Nat} {l:List Nat} (h:w.ownsRow base 168 1 (.slice (some ⟨g,0,none⟩) n n) n (zCx l)):Own w g l:=by
  obtain⟨hx,h2⟩:=h;rcases h2 with ⟨e,_⟩|⟨g',cap',cur,e,hb,hg,hcap,hmax,hsz,htk⟩
  · cases e
  · simp only[Value.slice.injEq,Option.some.injEq,Addr.mk.injEq]at e
    obtain⟨⟨rfl,_⟩,_,rfl⟩:=e;have e2:cur.toList=zCx l:=by rw[←htk,List.take_of_length_le (by simp[hsz])]
    unfold Own;rw[hg,←e2]
theorem Own.lt {w:World} {g:Nat} {l:List Nat} (h:Own w g l):g<w.heap.size:=(Array.getElem?_eq_some_iff.1 h).1
theorem Own.cell {w:World} {g:Nat} {l:List Nat} (h:Own w g l) (i:Nat) (hi:i<l.length):w.cell? ⟨g,i,none⟩=some (.int .u64 (l[i]:Int)):=by
  unfold Own at h
  simp[World.cell?,h,zCx,hi]
theorem Own.frozen {w:World} {g:Nat} {l:List Nat} (h:Own w g l) (i:Nat):w.frozen? ⟨g,i,none⟩=false:=by
  unfold Own at h
  simp[World.frozen?,h]
theorem Own.set {w:World} {g:Nat} {l:List Nat} (h:Own w g l) (i:Nat) (x:Nat):Own (w.setCell ⟨g,i,none⟩ (.int .u64 (x:Int))) g (l.set i x):=by
  unfold Own at h ⊢
  simp only[World.setCell,Array.getElem?_modify,h,Option.map_some];simp[zCx,List.map_set]
theorem Own.later {w w':World} {g B:Nat} {l:List Nat} (h:Own w g l) (hb:Below B w w') (hg:g<B):Own w' g l:=(hb.block g hg).trans h
theorem Own.row {w:World} {g:Nat} {l:List Nat} (h:Own w g l) (n cap:Nat) (hn:n=l.length) (hc:n≤cap) (hm:cap≤maxLen):Row w (.slice (some ⟨g,0,none⟩) n cap) l:=by
  subst hn;exact⟨some ⟨g,0,none⟩,cap,rfl,hc,hm,fun _=>⟨g,0,rfl,h.lt,fun i hi=>by rw[Nat.zero_add];exact h.cell i hi⟩⟩
theorem zDw (n:Nat):(madeCells (Value.int .u64 0).cells (n*1)).toList=zCx (List.replicate n 0):=by
  rw[show(Value.int .u64 0).cells=#[Value.int .u64 0]from rfl,toList_madeCells_one];simp[zCx]
theorem zBt {w w':World} {g:Nat} {x:Value} (hb:Below w.heap.size w w') (hg:g<w.heap.size) (hc:w.cell? ⟨g,0,none⟩=some x) (hf:w.frozen? ⟨g,0,none⟩=false) :
    w'.cell? ⟨g,0,none⟩=some x∧w'.frozen? ⟨g,0,none⟩=false :=
  ⟨(hb.cell (p:=⟨g,0,none⟩) hg).trans hc,(hb.frozen (p:=⟨g,0,none⟩) hg).trans hf⟩
theorem Row.form {w:World} {v:Value} {l:List Nat} (h:Row w v l):∃a cap,v=.slice a l.length cap∧l.length≤cap∧cap≤9223372036854775807:=by
  obtain⟨a,cap,rfl,hc,hm,_⟩:=h;exact⟨a,cap,rfl,hc,hm⟩
theorem Row.box {w:World} {v:Value} {l:List Nat} (h:Row w v l) {p:Addr} {x:Value} (u:Value) (hp:w.cell? p=some x) (hx:∀k n,x≠.int k n):Row (w.setCell p u) v l:=by
  obtain⟨a,cap,rfl,hc,hm,hr⟩:=h;refine⟨a,cap,rfl,hc,hm,fun h0=>?_⟩;obtain⟨b,o,rfl,hlt,hcell⟩:=hr h0;refine⟨b,o,rfl,by simpa [World.setCell] using hlt,fun i hi=>?_⟩
  rw[World.cell?_setCell_other _ _ _ _ (by
    intro e;have h1:=hcell i hi;rw[←e,hp,Option.some.injEq]at h1;exact hx _ _ h1)]
  exact hcell i hi
theorem zAf.box {w:World} {v:Value} {n:Nat} (h:zAf w v n) {p:Addr} {x:Value} (u:Value) (hp:w.cell? p=some x) (hx:∀k n,x≠.int k n):zAf (w.setCell p u) v n:=by
  obtain⟨s,l,rfl,hr,hn,hv⟩:=h;exact⟨s,l,rfl,hr.box u hp hx,hn,hv⟩
theorem zAf.shape {w:World} {v:Value} {n:Nat} (h:zAf w v n):∃a len cap,v=.agg #[.slice a len cap]:=by
  obtain⟨s,l,rfl,hr,hn,hv⟩:=h;obtain⟨a,cap,rfl,_⟩:=hr;exact⟨a,_,cap,rfl⟩
theorem zBi (a:Option Addr) (n c:Nat):∀k m,Value.slice a n c≠.int k m:=fun _ _ h=>by cases h
theorem zAf.zero (w:World):zAf w (.agg #[.slice none 0 0]) 0:=⟨_,[],rfl,Row.nil w,Cub.normal_nil _,rfl⟩
theorem zEi (v:Value) (l:List Nat) (w:World) (h:Row w v l) :
    Calls Tryz.prog 217 #[v] w fun e w'=>∃v',e=.returned (.agg #[v'])∧Row w' v' (Cub.trimN l)∧Bw w w':=by
  have H:=zAb h;obtain⟨a,cap,rfl,hc,hm,hr⟩:=h;have HR:=zAb hr;clear hr;unfold maxLen at hm
  go_enter Tryz.func217,Tryz.ntmps217
  go_wp2
  go_loop [3] (fun n=>∃k:Nat,k≤l.length∧n=I k∧Hid (Cub.trimN (l.take k)=Cub.trimN l)) (fun n=>(intOf n).toNat)
  case atStart=>exact⟨l.length,Nat.le_refl _,rfl,by rw[List.take_length];exact rfl⟩
  case round=>
    obtain⟨k,hk,rfl,ht⟩:=hrel
    by_cases hk0:k=0
    · subst hk0
      have e:Cub.trimN l=l.take 0:=by rw[←un ht];rfl
      have E:=zAb e;clear e ht
      go_wp2
      refine bodyPost_ret (v:=.agg #[.slice a 0 cap]) (by simp[results,Tryz.results217,go_sem]) rfl ⟨_,rfl,?_,?_⟩
      · rw[un E]
        exact((un H).take 0 (Nat.zero_le _)).later (by exact(Below.refl _ _).alloc (Nat.le_refl _) _)
      · exact(Below.refl _ _).alloc (Nat.le_refl _) _
    · have hlt:k - 1<l.length:=by omega
      obtain⟨b,o,rfl,hbw,hcell⟩:=un HR (fun e=>by rw[e]at hlt;simp at hlt);have hx:=hcell (k - 1) hlt;obtain⟨j,rfl⟩:∃j,k=j+1:=⟨k - 1,by omega⟩;simp only[Nat.add_sub_cancel]at hx hlt;have HT:=ht;clear ht
      by_cases hz:l[j]=0
      · rw[hz]at hx
        have e:Cub.trimN (l.take j)=Cub.trimN l:=by
          rw[←un HT,List.take_succ_eq_append_getElem hlt,hz,Cub.trimN_snoc_zero]
        have E:=zAb e;clear hcell e hz
        go_wp2
        go_round
        case rel=>exact⟨j,by omega,by go_num,E⟩
        case measure=>simp[intOf]
      · have e:Cub.trimN l=l.take (j+1):=by
          rw[←un HT,List.take_succ_eq_append_getElem hlt,Cub.trimN_snoc _ _ hz]
        have E:=zAb e;have hz':((l[j]:Int) == 0)=false:=by rw[beq_eq_false_iff_ne];omega
        clear hcell e hz
        go_wp2
        refine bodyPost_ret (v:=.agg #[.slice (some ⟨b,o,none⟩) (j+1) cap]) (by simp[results,Tryz.results217,go_sem]) rfl ⟨_,rfl,?_,?_⟩
        · rw[un E]
          exact((un H).take (j+1) hk).later (by exact(Below.refl _ _).alloc (Nat.le_refl _) _)
        · exact(Below.refl _ _).alloc (Nat.le_refl _) _
end Go.Proofs.YtliadckofhblnaaGreatDoor
namespace Cub
theorem pow9 (m:Nat):10 ^ (9*m)=1000000000 ^ m:=by rw[Nat.pow_mul]
theorem dval_cut (l:List UInt8) (m e f:Nat) (he:e+9*m=l.length) (hf:f≤e) :
  dval (l.drop f)=dval (l.drop e)+1000000000 ^ m*dval ((l.drop f).take (e - f)):=by
 have h1:l.drop f=(l.drop f).take (e - f) ++ l.drop e:=by
  have:=List.take_append_drop (e - f) (l.drop f)
  rw[List.drop_drop]at this
  rw[show f+(e - f)=e by omega]at this
  exact this.symm
 rw[←pow9]
 have hl:(l.drop e).length=9*m:=by rw[List.length_drop];omega
 rw[h1,dval_append,hl,←h1,Nat.mul_comm,Nat.add_comm]
theorem digs_sub {l:List UInt8} (h:digs l) (f k:Nat):digs ((l.drop f).take k):=fun c hc=>h c (List.mem_of_mem_drop (List.mem_of_mem_take hc))
theorem seg_lt {l:List UInt8} (h:digs l) (f k:Nat) (hk:k≤9):dval ((l.drop f).take k)<1000000000:=by
 have h1:=dval_lt (digs_sub h f k)
 have h2:((l.drop f).take k).length≤9:=by rw[List.length_take];omega
 have h3:10 ^ ((l.drop f).take k).length≤10 ^ 9:=Nat.pow_le_pow_right (by decide) h2
 omega
theorem seg_lt' {l:List UInt8} (h:digs l) (f k:Nat) (hk:k≤8):dval ((l.drop f).take k)<100000000:=by
 have h1:=dval_lt (digs_sub h f k)
 have h2:((l.drop f).take k).length≤8:=by rw[List.length_take];omega
 have h3:10 ^ ((l.drop f).take k).length≤10 ^ 8:=Nat.pow_le_pow_right (by decide) h2
 omega
theorem seg_succ (l:List UInt8) (f i:Nat) (hf:f≤i) (hi:i<l.length) :
  dval ((l.drop f).take (i+1 - f))=dval ((l.drop f).take (i - f))*10+(l[i].toNat - 48):=by
 rw[show i+1 - f=(i - f)+1 by omega,List.take_succ_eq_append_getElem (by rw[List.length_drop];omega),dval_snoc]
 have:(l.drop f)[i - f]'(by rw[List.length_drop];omega)=l[i]:=by
  rw[List.getElem_drop];congr 1;omega
 rw[this,Nat.mul_comm]
theorem cut_step (l:List UInt8) (L:List Nat) (e f:Nat) (he:e+9*L.length=l.length) (hf:f=e - 9) (hd:digs l) (hL:limbs 1000000000 L)
  (hv:lval 1000000000 L=dval (l.drop e)) :
  limbs 1000000000 (L ++ [dval ((l.drop f).take (e - f))])∧lval 1000000000 (L ++ [dval ((l.drop f).take (e - f))])=dval (l.drop f):=by
 refine⟨limbs_append.2 ⟨hL,fun x hx=>?_⟩,?_⟩
 ·rw[List.mem_singleton]at hx;subst hx;exact seg_lt hd f _ (by omega)
 ·rw[lval_snoc,hv,dval_cut l L.length e f he (by omega)]
end Cub
namespace Go.Proofs.YtliadckofhblnaaGreatDoor
open Go.RowKit
theorem Tryz.info168:(Tryz.prog.info? 168).map (fun i=>(i.zero,i.size,i.bytes))=some (some (.int .u64 0),1,8):=by kernel_rfl
theorem cut_start (l:List UInt8) (n:Nat) (h:l.length=n):(n:Int)=(n:Int) - 9*(([]:List Nat).length:Int)∧Cub.limbs 1000000000 []∧Cub.lval 1000000000 []=Cub.dval (l.drop (n - 9*([]:List Nat).length)):=by
  subst h;refine⟨by simp,fun _ h=>(by cases h),?_⟩;simp[Cub.lval,Cub.dval]
theorem bigText_any (s:ByteArray) (w:World) (hs:s.size≤1000000000) (hd:Cub.digs s.data.toList) :
    Calls Tryz.prog 187 #[.string s] w fun e w'=>∃v,e=.returned v∧zAf w' v (Cub.dval s.data.toList)∧Bw w w':=by
  have HD:=zAb hd;clear hd;obtain⟨i0,hi,hz0,hz1,hz2⟩:=info_parts Tryz.info168;go_enter Tryz.func187,Tryz.ntmps187
  go_wp2_with (at_make;refine wpList_make_own _ rfl _ _ 78 rfl (w.heap.size+1) 168 i0 (.int .u64 0) 1 Tryz.underlying78 hi hz0 hz1 .i64 .i64 _ (s.size / 9+1) rfl rfl (by omega) (by rw[hz2];omega) (by unfold maxLen;omega) (by simp) ?_;intro w0 hown0 hgrow0)
  have hown1:w0.ownsRow (w.heap.size+1) 168 1 (.slice (some ⟨w.heap.size+1,0,none⟩) 0 (s.size / 9+1)) 0 (zCx []):=by simpa [zCx] using hown0
  have hb0:Below (w.heap.size+1) (w.alloc (.cells #[.slice none 0 0] 80)) w0:=(Below.refl _ _).grown hgrow0 (by simp) (fun k hk=>by cases hk);clear hown0 hgrow0
  go_loopw [3,4] (fun v i wr=>∃(L:List Nat) (x:Int),i=I x∧x≤1000000000∧-9<x∧L.length≤200000000∧Hid (x=(s.size:Int) - 9*(L.length:Int)∧Cub.limbs 1000000000 L∧Cub.lval 1000000000 L=Cub.dval (s.data.toList.drop (s.size - 9*L.length)))∧
      wr.ownsRow (w.heap.size+1) 168 1 v L.length (zCx L)∧Below (w.heap.size+1) (w.alloc (.cells #[.slice none 0 0] 80)) wr) (fun _ i _=>(intOf i).toNat)
  case atStart=>exact⟨[],(s.size:Int),rfl,by omega,by omega,by simp,cut_start _ _ (zBq s),hown1,hb0⟩
  case round=>
    obtain⟨L,x,rfl,hx1,hx9,hLl,HX,hown,hb⟩:=hrel;clear hown1 hb0
    by_cases hx:0<x
    · obtain⟨e,rfl⟩:=Int.eq_ofNat_of_zero_le (Int.le_of_lt hx)
      have he0:Hid (e+9*L.length=s.size):=by have:=(un HX).1;exact(by omega:e+9*L.length=s.size)
      have hes:e≤s.size:=by have:=un he0;omega
      have HDs:Hid (∀k (hk:k<s.size),48≤s[k].toNat∧s[k].toNat≤57):=fun k hk=>un HD s[k] (by rw[←list_get s k hk];exact List.getElem_mem _)
      by_cases h9:9≤e
      all_goals
        go_wp2
        go_loop [5,6] (fun y i=>∃(k n:Nat),e - 9≤k∧k≤e∧i=I k∧y=.int .u64 n∧n<1000000000∧Hid (n=Cub.dval ((s.data.toList.drop (e - 9)).take (k - (e - 9))))) (fun _ i=>e - (intOf i).toNat)
        case atStart=>exact⟨e - 9,0,Nat.le_refl _,by omega,by go_num,rfl,by omega,by rw[Nat.sub_self];exact rfl⟩
        case round=>
          obtain⟨k,n,hk1,hk2,rfl,rfl,hn,HN⟩:=hrel
          by_cases hlt:k<e
          · have hks:k<s.size:=by omega
            obtain⟨d1,d2⟩:=un HDs k hks;have hn':n<100000000:=by rw[un HN];exact Cub.seg_lt' (un HD) _ _ (by omega)
            have HN':Hid (n*10+(s[k].toNat - 48)=Cub.dval ((s.data.toList.drop (e - 9)).take (k+1 - (e - 9)))):=by
              rw[Cub.seg_succ _ _ _ hk1 (by rw[zBq];exact hks),←un HN];exact rfl
            go_wp2
            go_round
            case rel=>exact⟨k+1,n*10+(s[k].toNat - 48),by omega,by omega,by go_num,by go_num,by omega,HN'⟩
            case measure=>simp[intOf];omega
          · have hke:k=e:=by omega
            subst hke;clear hlt
            go_wp2_with (at_builtin;refine wpList_append_own _ rfl _ _ 78 rfl (w.heap.size+1) 168 i0 (.int .u64 0) 1 8 Tryz.underlying78 hi hz0 hz1 hz2 rfl (by decide) _ _ _ rfl (hown.alloc _) ⟨wr.heap.size,0,none⟩ 1 1 [.int .u64 (n:Int)] rfl rfl (cell_one_new _ _ _) (fun x hx=>by simp at hx;subst hx;rfl) (by unfold maxLen;omega) (by omega) (by have:=hb.size;simp at this ⊢;omega) ?_;intro v' w1 hown' hgrow _)
            have hsz:=hb.size;have hb':Below (w.heap.size+1) (w.alloc (.cells #[.slice none 0 0] 80)) w1:=(hb.alloc (by simp at hsz;omega) _).grown hgrow (by simp at hsz ⊢;omega) (fun j hj=>(hown.lt j hj).1);have hown2:w1.ownsRow (w.heap.size+1) 168 1 v' (L ++ [n]).length (zCx (L ++ [n])):=by simpa [zCx] using hown'
            have HS:=Cub.cut_step s.data.toList L k (k - 9) (by rw[zBq];exact un he0) rfl (un HD) (un HX).2.1 (by have:=(un HX).2.2;rw[this];congr 2;have:=un he0;omega);rw[←un HN]at HS;have HS':=zAb HS;clear hgrow hown' HS hown hsz
            go_wp2
            go_roundw
            case rel=>exact⟨L ++ [n],(k:Int) - 9,rfl,by omega,by omega,by have:=un he0;simp;omega,⟨by have:=un he0;simp;omega,(un HS').1,by rw[(un HS').2];congr 2;have:=un he0;simp;omega⟩,hown2,hb'⟩
            case measure=>simp[intOf];omega
    · have hfin:Cub.lval 1000000000 (Cub.trimN L)=Cub.dval s.data.toList∧Cub.normal 1000000000 (Cub.trimN L):=by
        obtain⟨h1,h2,h3⟩:=un HX;obtain⟨t1,t2,_⟩:=Cub.lval_trim 1000000000 _ L rfl;refine⟨?_,t2 h2⟩;rw[t1,h3,show s.size - 9*L.length=0 by omega,List.drop_zero]
      have HF:=zAb hfin;have hrow:=Row.of_own hown;have HRow:=zAb hrow;have HOwn:=zAb hown;have hsz:w.heap.size+1≤wr.heap.size:=by have:=hb.size;simpa using this
      have hc0:wr.cell? ⟨w.heap.size,0,none⟩=some (.slice none 0 0):=by rw[hb.cell (p:=⟨w.heap.size,0,none⟩) (by simp)];simp
      have hf0:wr.frozen? ⟨w.heap.size,0,none⟩=false:=by rw[hb.frozen (p:=⟨w.heap.size,0,none⟩) (by simp)];simp
      clear hfin hrow hown
      go_wp2_with (go_at_call 217;refine(zEi _ L _ (un HRow)).mono ?_;rintro e w2 ⟨v',rfl,hrow2,hb2⟩;obtain⟨a2,cap2,rfl,hcap2⟩:=hrow2.form;obtain⟨hc2,hf2⟩:=zBt hb2 hsz hc0 hf0)
      refine bodyPost_ret (v:=.agg #[.slice a2 (Cub.trimN L).length cap2]) (by simp[results,Tryz.results187,go_sem,hc2]) rfl ⟨_,rfl,?_,?_⟩
      · exact⟨_,_,rfl,hrow2.box _ hc2 (fun _ _ h=>by cases h),(un HF).2,(un HF).1⟩
      · exact(((Below.refl _ _).alloc (Nat.le_refl _) _).trans ((hb.trans (hb2.mono hsz)).mono (Nat.le_succ _))).setCell (Nat.le_refl _) _
end Go.Proofs.YtliadckofhblnaaGreatDoor
namespace Cub
open Go.Lib (nDigits decDigits)
def dcount (y:Nat):Nat:=if y=0 then 0 else nDigits y
theorem dcount_zero:dcount 0=0:=rfl
theorem dcount_step (y:Nat) (h:0<y):dcount y=dcount (y / 10)+1:=by
 unfold dcount
 rw[if_neg (by omega)]
 by_cases h10:y<10
 ·rw[Go.Lib.nDigits_small h10,if_pos (by omega)]
 ·rw[Go.Lib.nDigits_big h10,if_neg (by omega)]
theorem dcount_pos (y:Nat) (h:0<y):dcount y=nDigits y:=by unfold dcount;rw[if_neg (by omega)]
theorem nDigits_ge (x:Nat) (h:0<x):10 ^ (nDigits x - 1)≤x:=by
 have h1:=isNat_dec x
 by_cases h2:2≤(decDigits x).length
 ·have:=zJr h1 h2
  rw[dval_dec,Go.Lib.decDigits_length]at this;exact this
 ·rw[Go.Lib.decDigits_length]at h2
  have:nDigits x - 1=0:=by omega
  rw[this];omega
theorem nDigits_top (t:List Nat) (x:Nat) (ht:limbs 1000000000 t) (hx:0<x):nDigits (lval 1000000000 (t ++ [x]))=9*t.length+nDigits x:=by
 have h1:=nDigits_ge x hx
 have h2:=Go.Lib.lt_pow_nDigits x
 have h3:=lval_lt ht
 have h4:=Go.Lib.nDigits_pos x
 rw[show 9*t.length+nDigits x=(9*t.length+(nDigits x - 1))+1 by omega]
 rw[lval_snoc]
 have p1:10 ^ (9*t.length+(nDigits x - 1))=1000000000 ^ t.length*10 ^ (nDigits x - 1):=by rw[Nat.pow_add,pow9]
 have p2:10 ^ (9*t.length+(nDigits x - 1)+1)=1000000000 ^ t.length*10 ^ (nDigits x):=by
  rw[show 9*t.length+(nDigits x - 1)+1=9*t.length+nDigits x by omega,Nat.pow_add,pow9]
 apply Go.Lib.nDigits_unique
 ·rw[p1]
  have:=Nat.mul_le_mul_left (1000000000 ^ t.length) h1
  omega
 ·rw[p2]
  have:1000000000 ^ t.length*(x+1)≤1000000000 ^ t.length*10 ^ (nDigits x):=Nat.mul_le_mul_left _ h2
  rw[Nat.mul_add]at this
  omega
theorem nDigits_le9 (x:Nat) (h:x<1000000000):nDigits x≤9:=by
 have:=(dec_len_lt x 9 (by decide)).2 (by simpa using h)
 rwa [Go.Lib.decDigits_length]at this
theorem len_le {l:List Nat} {k:Nat} (h:normal 1000000000 l) (hk:lval 1000000000 l<1000000000 ^ k):l.length≤k:=by
 by_cases hne:l=[]
 ·subst hne;simp
 ·have h1:=normal_ge h hne
  have h2:=(Nat.pow_lt_pow_iff_right (by decide:1<1000000000)).1 (Nat.lt_of_le_of_lt h1 hk)
  omega
theorem split_last {l:List Nat} (h:l≠[]):∃t x,l=t ++ [x]:=by
 rcases List.eq_nil_or_concat l with h0|⟨t,c,rfl⟩
 ·exact absurd h0 h
 ·exact⟨t,c,by rw[List.concat_eq_append]⟩
theorem normal_last {t:List Nat} {x:Nat} (h:normal 1000000000 (t ++ [x])):limbs 1000000000 t∧0<x∧x<1000000000:=by
 refine⟨(limbs_append.1 h.1).1,?_,(limbs_append.1 h.1).2 x (by simp)⟩
 have:x≠0:=by intro e;apply h.2;simp[e]
 omega
end Cub
namespace Go.Proofs.YtliadckofhblnaaGreatDoor
open Go.RowKit
theorem zAf.form {w:World} {v:Value} {n:Nat} (h:zAf w v n):∃a l cap,v=.agg #[.slice a l.length cap]∧l.length≤9223372036854775807∧Row w (.slice a l.length cap) l∧Cub.normal 1000000000 l∧Cub.lval 1000000000 l=n:=by
 obtain⟨s,l,rfl,hr,hn,hv⟩:=h;obtain⟨a,cap,rfl,hc,hm⟩:=hr.form;exact⟨a,l,cap,rfl,by omega,hr,hn,hv⟩
theorem big_zero {l:List Nat} (hn:Cub.normal 1000000000 l):(Cub.lval 1000000000 l == 0)=((l.length:Int) == 0):=by
 rw[Bool.eq_iff_iff,beq_iff_eq,beq_iff_eq,Cub.normal_zero hn (by decide),←List.length_eq_zero_iff];omega
theorem zCk (v:Value) (n:Nat) (w:World) (h:zAf w v n) :
 Calls Tryz.prog 153 #[v] w fun e w'=>e=.returned (.bool (n == 0))∧Bw w w':=by
 obtain⟨a,l,cap,rfl,hl,hr,hn,rfl⟩:=h.form;rw[big_zero hn];clear h hr hn;go_enter Tryz.func153,Tryz.ntmps153
 go_wp2
 go_ret
 exact⟨rfl,bA⟩
theorem zGu (v:Value) (n k:Nat) (w:World) (h:zAf w v n) (hk:k≤1000000) (hn:n<1000000000 ^ k) :
 Calls Tryz.prog 119 #[v] w fun e w'=>e=.returned (I (Lib.nDigits n:Nat))∧Bw w w':=by
 have H:=zAb h;obtain⟨a,l,cap,rfl,hl,hr,hnm,rfl⟩:=h.form;have hlk:=Cub.len_le hnm hn;clear hn hl h
 by_cases h0:l=[]
 ·subst h0
  have e1:Lib.nDigits (Cub.lval 1000000000 [])=1:=Lib.nDigits_small (by decide);rw[e1];clear e1;go_enter Tryz.func119,Tryz.ntmps119
  go_wp2_with (go_at_call 153;refine(zCk _ _ _ ((un H).later bA)).mono ?_;rintro e w2 ⟨rfl,hb2⟩)
  go_ret
  exact⟨rfl,bA.trans (hb2.mono (by simp))⟩
 ·obtain⟨t,x,rfl⟩:=Cub.split_last h0
  obtain⟨ht,hx0,hxB⟩:=Cub.normal_last hnm
  have hz:(Cub.lval 1000000000 (t ++ [x]) == 0)=false:=by
   rw[beq_eq_false_iff_ne];intro e;exact h0 ((Cub.normal_zero hnm (by decide)).1 e)
  have HD:=zAb (Cub.nDigits_top t x ht hx0);have HL:=zAb (Cub.nDigits_le9 x hxB);obtain⟨a',cap',ev,hc,hm,hcells⟩:=hr;simp only[Value.slice.injEq]at ev;obtain⟨rfl,_,rfl⟩:=ev;obtain⟨b,o,rfl,hbw,hcell⟩:=hcells h0;have hx:=hcell t.length (by simp);simp only[List.getElem_concat_length]at hx;have htk:t.length+1≤k:=by simpa using hlk
  have hlen:(t ++ [x]).length=t.length+1:=by simp
  have HZ:=zAb hz;rw[hlen]at H ⊢;clear hcell hcells hnm ht hlk hz h0 hlen;have HX:Hid (∀W,Below w.heap.size w W→W.cell? ⟨b,o+t.length,none⟩=some (.int .u64 (x:Int))):=fun W hW=>(hW.cell (p:=⟨b,o+t.length,none⟩) hbw).trans hx
  clear hx;go_enter Tryz.func119,Tryz.ntmps119
  go_wp2_with (go_at_call 153;refine(zCk _ _ _ ((un H).later bA)).mono ?_;rintro e w2 ⟨rfl,hb2⟩;rw[un HZ];obtain⟨hcb,_⟩:=zBt hb2 (g:=w.heap.size) (x:=.slice (some ⟨b,o,none⟩) (t.length+1) cap) (by simp) (by simp) (by simp);have hb3:=((Below.refl w.heap.size w).alloc (Nat.le_refl _) (.cells #[.slice (some ⟨b,o,none⟩) (t.length+1) cap] 80)).trans (hb2.mono (by simp));have hx2:=un HX w2 hb3;clear hb2)
  go_loop [4,5] (fun m y=>∃(c z:Nat),m=I ((t.length:Int)*9+(c:Int))∧y=.int .u64 (z:Int)∧z<1000000000∧c≤9∧Hid (c+Cub.dcount z=Lib.nDigits x)) (fun _ y=>(intOf y).toNat)
  case atStart=>exact⟨0,x,by simp,rfl,hxB,by omega,by rw[Cub.dcount_pos x hx0];exact Nat.zero_add _⟩
  case round=>
   obtain⟨c,z,rfl,rfl,hz,hc9,HC⟩:=hrel
   by_cases hz0:0<z
   ·have hC:Hid (c+1+Cub.dcount (z / 10)=Lib.nDigits x):=by rw[←un HC,Cub.dcount_step z hz0];exact(by omega:c+1+Cub.dcount (z / 10)=c+(Cub.dcount (z / 10)+1))
    have hc8:c+1≤9:=by have:=un hC;have:=un HL;omega
    go_wp2
    go_round
    case rel=>exact⟨c+1,z / 10,by go_num,by go_num,by omega,hc8,hC⟩
    case measure=>simp[intOf];omega
   ·have:z=0:=by omega
    subst this;have hfin:(t.length:Int)*9+(c:Int)=((9*t.length+Lib.nDigits x:Nat):Int):=by have:=un HC;rw[Cub.dcount_zero]at this;omega
    have HF:=zAb hfin;clear hfin
    go_wp2
    go_ret
    exact⟨by rw[un HD,←un HF];rfl,hb3⟩
end Go.Proofs.YtliadckofhblnaaGreatDoor
namespace Cub
open Go.Lib (nDigits decDigits)
def padn:Nat→Nat→List UInt8
  | 0,_=>[]
  | k+1,d=>padn k (d / 10) ++ [UInt8.ofNat (48+d % 10)]
theorem padn_length (k:Nat):∀d,(padn k d).length=k:=by
  induction k with
  | zero=>intro d;rfl
  | succ k ih=>intro d;simp[padn,ih]
theorem dec_pad (k:Nat):∀(q r:Nat),0<q→r<10 ^ k→decDigits (10 ^ k*q+r)=decDigits q ++ padn k r:=by
  induction k with
  | zero => intro q r hq hr;have:r=0:=by simpa using hr
            subst this;simp[padn]
  | succ k ih=>
    intro q r hq hr
    have hp:0<10 ^ k:=Nat.pow_pos (by decide)
    have h1:10≤10 ^ (k+1)*q+r:=by
      rw[Nat.pow_succ]
      have:10 ^ k*10*1≤10 ^ k*10*q:=Nat.mul_le_mul_left _ hq
      omega
    have e:10 ^ (k+1)*q+r=10*(10 ^ k*q)+r:=by rw[Nat.pow_succ,Nat.mul_comm (10 ^ k) 10,Nat.mul_assoc]
    rw[decDigits,dif_neg (by omega)]
    have d1:(10 ^ (k+1)*q+r) / 10=10 ^ k*q+r / 10:=by rw[e];omega
    have d2:(10 ^ (k+1)*q+r) % 10=r % 10:=by rw[e];omega
    rw[d1,d2,ih q (r / 10) hq (by rw[Nat.pow_succ]at hr;omega)]
    simp[padn]
theorem pad_step (d j:Nat) (hj:j+1≤9):padn (9 - (j+1)) (d / 10 ^ (j+1)) ++ [UInt8.ofNat (48+d / 10 ^ j % 10)]=padn (9 - j) (d / 10 ^ j):=by
  rw[show 9 - j=(9 - (j+1))+1 by omega]
  simp only[padn]
  rw[Nat.div_div_eq_div_mul,←Nat.pow_succ]
theorem pad_all (d:Nat):padn (9 - 0) (d / 10 ^ 0)=padn 9 d:=by simp
theorem dec_limb (l:List Nat) (i:Nat) (hi:i<l.length) (hl:limbs 1000000000 l) (hq:0<lval 1000000000 (l.drop (i+1))) :
    decDigits (lval 1000000000 (l.drop i))=decDigits (lval 1000000000 (l.drop (i+1))) ++ padn 9 l[i]:=by
  have hx:=hl l[i] (List.getElem_mem hi)
  rw[List.drop_eq_getElem_cons hi]
  simp only[lval]
  rw[Nat.add_comm]
  exact dec_pad 9 _ _ hq hx
theorem drop_pos {l:List Nat} (h:normal 1000000000 l) (i:Nat) (hi:i<l.length):0<lval 1000000000 (l.drop i):=by
  have hne:l.drop i≠[]:=by intro e;have:=congrArg List.length e;simp at this;omega
  have hn:normal 1000000000 (l.drop i):=by
    refine⟨fun x hx=>h.1 x (List.mem_of_mem_drop hx),?_⟩
    rw[List.getLast?_drop,if_neg (by omega)];exact h.2
  have h1:=normal_ge hn hne
  have:0<1000000000 ^ ((l.drop i).length - 1):=Nat.pow_pos (by decide)
  omega
def unitOf (j:Nat):Nat:=if j=0 then 0 else 10 ^ (j - 1)
theorem unit_div (j:Nat):unitOf (j+1) / 10=unitOf j:=by
  unfold unitOf
  rw[if_neg (by omega)]
  cases j with
  | zero=>rfl
  | succ k=>rw[if_neg (by omega)];simp[Nat.pow_succ]
theorem unit_pos (j:Nat):0<unitOf j↔0<j:=by
  unfold unitOf
  by_cases h:j=0
  · simp[h]
  · rw[if_neg h];exact⟨fun _=>by omega,fun _=>Nat.pow_pos (by decide)⟩
theorem unit_at (j:Nat):unitOf (j+1)=10 ^ j:=by unfold unitOf;rw[if_neg (by omega)];rfl
end Cub
namespace Go.Proofs.YtliadckofhblnaaGreatDoor
open Go.RowKit
theorem Tryz.info5:(Tryz.prog.info? 5).map (fun i=>(i.zero,i.size,i.bytes))=some (some (.int .u8 0),1,1):=by kernel_rfl
theorem byteCells_snoc (l:List UInt8) (c:Nat) (hc:c<10):Lib.byteCells l ++ [.int .u8 (48+(c:Int))]=Lib.byteCells (l ++ [UInt8.ofNat (48+c)]):=by
 rw[Lib.byteCells_append]
 congr 1
 simp only[Lib.byteCells,List.map_cons,List.map_nil];rw[Cub.toNat_dig c hc];rfl
def toldText (n:Nat):List UInt8:=if n<10 ^ 600 then Lib.decDigits n else []
theorem len600 (n:Nat):Lib.nDigits n≤600↔n<10 ^ 600:=by
 rw[←Lib.decDigits_length];exact Cub.dec_len_lt n 600 (by decide)
theorem right_digs {s:ByteArray} (h:Cub.rightB s.data.toList=true):Cub.digs s.data.toList∧s.size≤600:=by
 obtain⟨h1,h2⟩:=(Cub.rightB_iff _).1 h;exact⟨h1.1,by rw[zBq]at h2;exact h2⟩
theorem mk_list (l:List UInt8):(⟨l.toArray⟩:ByteArray).data.toList=l:=rfl
theorem toldText_pos (n:Nat) (h:n<10 ^ 600):toldText n=Lib.decDigits n:=by
 unfold toldText;rw[if_pos h]
def tb (n:Nat):ByteArray:=⟨(toldText n).toArray⟩
theorem zJb (n:Nat) (h:n<10 ^ 600):(tb n).data.toList=Lib.decDigits n:=by
 exact(mk_list (toldText n)).trans (toldText_pos n h)
theorem zEk (n:Nat) (h:n<10 ^ 600):Cub.rightB (tb n).data.toList=true∧Cub.dval (tb n).data.toList=n:=by
 rw[zJb n h];refine⟨(Cub.rightB_iff _).2 ⟨Cub.isNat_dec n,?_⟩,Cub.dval_dec n⟩;rw[Lib.decDigits_length];exact(len600 n).2 h
theorem tb_full (n:Nat) (h:n<10 ^ 600):(tb n).toList.isEmpty=false:=by
 rw[Lib.toList_data,zJb n h]
 cases e:Lib.decDigits n with
 | nil=>exact absurd e (Cub.dec_ne_nil n)
 | cons a t=>rfl
theorem tb_of {s:ByteArray} (h:Cub.rightB s.data.toList=true):∃n,n<10 ^ 600∧s=tb n:=by
 obtain⟨h1,h2⟩:=(Cub.rightB_iff _).1 h;have h3:=Nat.lt_of_lt_of_le (Cub.dval_lt h1.1) (Nat.pow_le_pow_right (n:=10) (by decide) h2);refine⟨Cub.dval s.data.toList,h3,?_⟩;have e:s.data.toList=(tb (Cub.dval s.data.toList)).data.toList:=by rw[zJb _ h3];exact(Cub.dec_dval _ _ rfl h1).symm
 apply ByteArray.ext
 exact Array.ext' e
theorem tb_size (n:Nat) (h:n<10 ^ 600):(tb n).size≤maxLen:=by
 have h1:=((Cub.rightB_iff _).1 (zEk n h).1).2;rw[zBq]at h1;unfold maxLen;omega
def val (s:ByteArray):Nat:=Cub.dval s.data.toList
theorem pow_nine (c k:Nat) (h:c≤9*k):(10:Nat) ^ c≤1000000000 ^ k:=by
 have e:(1000000000:Nat) ^ k=10 ^ (9*k):=by rw[Nat.pow_mul]
 rw[e];exact Nat.pow_le_pow_right (by decide) h
theorem dec_zero:Lib.decDigits 0=[48]:=by rw[Lib.decDigits];simp
theorem zero_val {s:ByteArray} (h:s.data.toList=[48]):val s=0:=by
 unfold val;rw[h];decide
end Go.Proofs.YtliadckofhblnaaGreatDoor
namespace Go.Proofs
open Go.Shelf
def Tryz.lays103_ren:Go.Shelf.Ren:=⟨fun|103=>237|210=>271|206=>302|n=>n,fun|9=>9|4=>4|24=>250|3=>3|n=>n,fun|n=>n⟩
theorem Tryz.lays103:Go.Proofs.Lays.n103 Tryz.prog Tryz.lays103_ren:={
 mixed:=by kernel_rfl
 f103:=Tryz.func237.trans (congrArg some (by kernel_rfl))
 f206:=Tryz.func302.trans (congrArg some (by kernel_rfl))
 f210:=Tryz.func271.trans (congrArg some (by kernel_rfl))
 t3:=Tryz.underlying3
 a3:=Tryz.isAgg3
 z3:=Tryz.sizeOf3
 v3:=Tryz.zeroValue3
 t4:=Tryz.underlying4
 a4:=Tryz.isAgg4
 z4:=Tryz.sizeOf4
 v4:=Tryz.zeroValue4
 t9:=Tryz.underlying9
 a9:=Tryz.isAgg9
 z9:=Tryz.sizeOf9
 v9:=Tryz.zeroValue9
 t24:=Tryz.underlying250
 a24:=Tryz.isAgg250
 z24:=Tryz.sizeOf250
 v24:=Tryz.zeroValue250 }
open Go.RowKit in
theorem Tryz.strings_CutPrefix (s p:ByteArray) (w:World) :
  Calls Tryz.prog 237 #[.string s,.string p] w fun e w'=>e=.returned (.tuple #[.string ⟨(Lib.trimPrefix s.data.toList p.data.toList).toArray⟩,.bool (Lib.hasPrefix s.data.toList p.data.toList)])∧w'=w:=Any.strings_CutPrefix Tryz.lays103 s p w
def Tryz.lays283_ren:Go.Shelf.Ren:=⟨fun|283=>272|n=>n,fun|3=>3|9=>9|4=>4|n=>n,fun|n=>n⟩
theorem Tryz.lays283:Go.Proofs.Lays.n283 Tryz.prog Tryz.lays283_ren:={
 mixed:=by kernel_rfl
 f283:=Tryz.func272.trans (congrArg some (by kernel_rfl))
 t3:=Tryz.underlying3
 a3:=Tryz.isAgg3
 z3:=Tryz.sizeOf3
 v3:=Tryz.zeroValue3
 t4:=Tryz.underlying4
 a4:=Tryz.isAgg4
 z4:=Tryz.sizeOf4
 v4:=Tryz.zeroValue4
 t9:=Tryz.underlying9
 a9:=Tryz.isAgg9
 z9:=Tryz.sizeOf9
 v9:=Tryz.zeroValue9 }
open Go.Lib in
theorem Tryz.internal_strconv_small (i:Nat) (h:i<100) (w:World) :
  Calls Tryz.prog 272 #[.int .i64 i] w fun e w'=>e=.returned (.string ⟨(Lib.decDigits i).toArray⟩)∧w'=w:=Any.internal_strconv_small Tryz.lays283 i h w
def Tryz.laysM284_ren:Go.Shelf.Ren:=⟨fun|284=>273|129=>304|317=>303|318=>305|n=>n,fun|53=>168|3=>3|212=>333|0=>0|4=>4|46=>335|5=>5|9=>9|n=>n,fun|17=>2|n=>n⟩
theorem Tryz.laysM284:Go.Proofs.LaysM.n284 Tryz.prog Tryz.laysM284_ren:={
 mixed:=by kernel_rfl
 f129:=Tryz.func304.trans (congrArg some (by kernel_rfl))
 f284:=Tryz.func273.trans (congrArg some (by kernel_rfl))
 f317:=Tryz.func303.trans (congrArg some (by kernel_rfl))
 f318:=Tryz.func305.trans (congrArg some (by kernel_rfl))
 t0:=Tryz.underlying0
 a0:=Tryz.isAgg0
 z0:=Tryz.sizeOf0
 v0:=Tryz.zeroValue0
 t3:=Tryz.underlying3
 a3:=Tryz.isAgg3
 z3:=Tryz.sizeOf3
 v3:=Tryz.zeroValue3
 t4:=Tryz.underlying4
 a4:=Tryz.isAgg4
 z4:=Tryz.sizeOf4
 v4:=Tryz.zeroValue4
 t5:=Tryz.underlying5
 a5:=Tryz.isAgg5
 z5:=Tryz.sizeOf5
 v5:=Tryz.zeroValue5
 t9:=Tryz.underlying9
 a9:=Tryz.isAgg9
 z9:=Tryz.sizeOf9
 v9:=Tryz.zeroValue9
 t46:=Tryz.underlying335
 a46:=Tryz.isAgg335
 z46:=Tryz.sizeOf335
 v46:=Tryz.zeroValue335
 t53:=Tryz.underlying168
 a53:=Tryz.isAgg168
 z53:=Tryz.sizeOf168
 v53:=Tryz.zeroValue168
 t212:=Tryz.underlying333
 a212:=Tryz.isAgg333
 z212:=Tryz.sizeOf333
 v212:=Tryz.zeroValue333
 g17:=by kernel_rfl
 i0:=by kernel_rfl
 i3:=by kernel_rfl
 i4:=by kernel_rfl
 i5:=by kernel_rfl
 i9:=by kernel_rfl
 i46:=by kernel_rfl
 i53:=by kernel_rfl
 i212:=by kernel_rfl
 m17:=by kernel_rfl }
open Go.Lib in
theorem Tryz.internal_strconv_numDigits (u:Nat) (h1:1≤u) (h2:u<18446744073709551616) (w:World) (htab:Lib.TabIs Tryz.prog w "internal/strconv.uint64pow10" .u64 Lib.pow10Tab) :
  Calls Tryz.prog 273 #[.int .u64 u] w fun e w'=>e=.returned (.int .i64 (Lib.nDigits u))∧w'=w:=Any.internal_strconv_numDigits Tryz.laysM284 u h1 h2 w htab
def Tryz.lays285_ren:Go.Shelf.Ren:=⟨fun|285=>274|n=>n,fun|37=>208|53=>168|3=>3|4=>4|51=>309|9=>9|5=>5|0=>0|n=>n,fun|n=>n⟩
theorem Tryz.lays285:Go.Proofs.Lays.n285 Tryz.prog Tryz.lays285_ren:={
 mixed:=by kernel_rfl
 f285:=Tryz.func274.trans (congrArg some (by kernel_rfl))
 t0:=Tryz.underlying0
 a0:=Tryz.isAgg0
 z0:=Tryz.sizeOf0
 v0:=Tryz.zeroValue0
 t3:=Tryz.underlying3
 a3:=Tryz.isAgg3
 z3:=Tryz.sizeOf3
 v3:=Tryz.zeroValue3
 t4:=Tryz.underlying4
 a4:=Tryz.isAgg4
 z4:=Tryz.sizeOf4
 v4:=Tryz.zeroValue4
 t5:=Tryz.underlying5
 a5:=Tryz.isAgg5
 z5:=Tryz.sizeOf5
 v5:=Tryz.zeroValue5
 t9:=Tryz.underlying9
 a9:=Tryz.isAgg9
 z9:=Tryz.sizeOf9
 v9:=Tryz.zeroValue9
 t37:=Tryz.underlying208
 a37:=Tryz.isAgg208
 z37:=Tryz.sizeOf208
 v37:=Tryz.zeroValue208
 t51:=Tryz.underlying309
 a51:=Tryz.isAgg309
 z51:=Tryz.sizeOf309
 v51:=Tryz.zeroValue309
 t53:=Tryz.underlying168
 a53:=Tryz.isAgg168
 z53:=Tryz.sizeOf168
 v53:=Tryz.zeroValue168 }
open Go.RowKit Go.Sort Go.Lib in
theorem Tryz.internal_strconv_formatBase10 (blk off cap:Nat) (u:Nat) (d:Array UInt8) (w:World) (hH:Holds (fun (b:UInt8)=>Value.int .u8 (b.toNat:Int)) w blk off d) (hu:u<10 ^ d.size) (hu64:u<18446744073709551616) (hsz:d.size<4611686018427387904) :
  Calls Tryz.prog 274 #[.slice (some ⟨blk,off,none⟩) d.size cap,.int .u64 u] w fun e w'=>
   e=.returned (.tuple #[])∧∃(n v':Nat) (dk:Array UInt8),w'=(putRow (fun (b:UInt8)=>Value.int .u8 (b.toNat:Int)) w blk off dk).drewN n∧FmtInv d.size u 0 v' dk:=Any.internal_strconv_formatBase10 Tryz.lays285 blk off cap u d w hH hu hu64 hsz
def Tryz.laysM288_ren:Go.Shelf.Ren:=⟨fun|288=>238|283=>272|284=>273|285=>274|286=>275|129=>304|317=>303|318=>305|319=>306|320=>307|337=>365|338=>366|n=>n,fun|37=>208|53=>168|3=>3|4=>4|9=>9|171=>298|0=>0|173=>301|212=>333|51=>309|5=>5|20=>20|213=>334|46=>335|232=>367|233=>368|n=>n,fun|17=>2|18=>4|19=>5|n=>n⟩
theorem Tryz.laysM288:Go.Proofs.LaysM.n288 Tryz.prog Tryz.laysM288_ren:={
 mixed:=by kernel_rfl
 f129:=Tryz.func304.trans (congrArg some (by kernel_rfl))
 f283:=Tryz.func272.trans (congrArg some (by kernel_rfl))
 f284:=Tryz.func273.trans (congrArg some (by kernel_rfl))
 f285:=Tryz.func274.trans (congrArg some (by kernel_rfl))
 f286:=Tryz.func275.trans (congrArg some (by kernel_rfl))
 f288:=Tryz.func238.trans (congrArg some (by kernel_rfl))
 f317:=Tryz.func303.trans (congrArg some (by kernel_rfl))
 f318:=Tryz.func305.trans (congrArg some (by kernel_rfl))
 f319:=Tryz.func306.trans (congrArg some (by kernel_rfl))
 f320:=Tryz.func307.trans (congrArg some (by kernel_rfl))
 f337:=Tryz.func365.trans (congrArg some (by kernel_rfl))
 f338:=Tryz.func366.trans (congrArg some (by kernel_rfl))
 t0:=Tryz.underlying0
 a0:=Tryz.isAgg0
 z0:=Tryz.sizeOf0
 v0:=Tryz.zeroValue0
 t3:=Tryz.underlying3
 a3:=Tryz.isAgg3
 z3:=Tryz.sizeOf3
 v3:=Tryz.zeroValue3
 t4:=Tryz.underlying4
 a4:=Tryz.isAgg4
 z4:=Tryz.sizeOf4
 v4:=Tryz.zeroValue4
 t5:=Tryz.underlying5
 a5:=Tryz.isAgg5
 z5:=Tryz.sizeOf5
 v5:=Tryz.zeroValue5
 t9:=Tryz.underlying9
 a9:=Tryz.isAgg9
 z9:=Tryz.sizeOf9
 v9:=Tryz.zeroValue9
 t20:=Tryz.underlying20
 a20:=Tryz.isAgg20
 z20:=Tryz.sizeOf20
 v20:=Tryz.zeroValue20
 t37:=Tryz.underlying208
 a37:=Tryz.isAgg208
 z37:=Tryz.sizeOf208
 v37:=Tryz.zeroValue208
 t46:=Tryz.underlying335
 a46:=Tryz.isAgg335
 z46:=Tryz.sizeOf335
 v46:=Tryz.zeroValue335
 t51:=Tryz.underlying309
 a51:=Tryz.isAgg309
 z51:=Tryz.sizeOf309
 v51:=Tryz.zeroValue309
 t53:=Tryz.underlying168
 a53:=Tryz.isAgg168
 z53:=Tryz.sizeOf168
 v53:=Tryz.zeroValue168
 t171:=Tryz.underlying298
 a171:=Tryz.isAgg298
 z171:=Tryz.sizeOf298
 v171:=Tryz.zeroValue298
 t173:=Tryz.underlying301
 a173:=Tryz.isAgg301
 z173:=Tryz.sizeOf301
 v173:=Tryz.zeroValue301
 t212:=Tryz.underlying333
 a212:=Tryz.isAgg333
 z212:=Tryz.sizeOf333
 v212:=Tryz.zeroValue333
 t213:=Tryz.underlying334
 a213:=Tryz.isAgg334
 z213:=Tryz.sizeOf334
 t232:=Tryz.underlying367
 a232:=Tryz.isAgg367
 z232:=Tryz.sizeOf367
 v232:=Tryz.zeroValue367
 t233:=Tryz.underlying368
 a233:=Tryz.isAgg368
 z233:=Tryz.sizeOf368
 v233:=Tryz.zeroValue368
 g17:=by kernel_rfl
 g18:=by kernel_rfl
 g19:=by kernel_rfl
 i0:=by kernel_rfl
 i3:=by kernel_rfl
 i4:=by kernel_rfl
 i5:=by kernel_rfl
 i9:=by kernel_rfl
 i20:=by kernel_rfl
 i37:=by kernel_rfl
 i46:=by kernel_rfl
 i51:=by kernel_rfl
 i53:=by kernel_rfl
 i171:=by kernel_rfl
 i173:=by kernel_rfl
 i212:=by kernel_rfl
 i232:=by kernel_rfl
 i233:=by kernel_rfl
 m17:=by kernel_rfl
 m18:=by kernel_rfl
 m19:=by kernel_rfl }
open Go.RowKit Go.Sort Go.Lib in
theorem Tryz.internal_strconv_AppendUint_10 (B n u:Nat) (hu64:u<18446744073709551616) (sv:Value) (xs:List Value) (w:World) (hown:w.ownsRow B 5 1 sv n xs) (hBw:B≤w.heap.size) (hlim:n+20≤140737488355328) (htab:Lib.TabIs Tryz.prog w "internal/strconv.uint64pow10" .u64 Lib.pow10Tab) :
  Calls Tryz.prog 238 #[sv,.int .u64 u,.int .i64 10] w fun e w'=>∃v',e=.returned v'∧w'.ownsRow B 5 1 v' (n+(Lib.decDigits u).length) (xs ++ Lib.byteCells (Lib.decDigits u))∧Below B w w'∧Lib.OthersKept 5 none w w':=Any.internal_strconv_AppendUint_10 Tryz.laysM288 B n u hu64 sv xs w hown hBw hlim htab
end Go.Proofs
namespace Go.Proofs.YtliadckofhblnaaGreatDoor
open Go.RowKit
def Tab (w:World):Prop:=Lib.TabIs Tryz.prog w "internal/strconv.uint64pow10" .u64 Lib.pow10Tab
theorem Tab.later {w w':World} (h:Tab w) (hb:Below w.heap.size w w'):Tab w':=Lib.tabBelow_of_tabIs h w' hb
theorem appendUint_any (B n u:Nat) (hu:u<18446744073709551616) (sv:Value) (xs:List Value) (w:World) (hown:w.ownsRow B 5 1 sv n xs) (hBw:B≤w.heap.size) (hlim:n+20≤140737488355328) (htab:Tab w) :
 Calls Tryz.prog 189 #[sv,.int .u64 u,I 10] w fun e w'=>∃v',e=.returned v'∧w'.ownsRow B 5 1 v' (n+(Lib.decDigits u).length) (xs ++ Lib.byteCells (Lib.decDigits u))∧Below B w w':=by
 have HO:=zAb hown;have HT:=zAb htab;clear hown htab;go_enter Tryz.func189,Tryz.ntmps189
 go_wp2_with (go_at_call 238;refine(Tryz.internal_strconv_AppendUint_10 B n u hu sv xs _ (un HO) hBw hlim (un HT)).mono ?_;rintro e w2 ⟨v',rfl,h1,h2,_⟩)
 go_ret
 exact⟨v',rfl,h1,h2⟩
theorem text_any (v:Value) (n k:Nat) (w:World) (h:zAf w v n) (hk:k≤1000000) (hn:n<1000000000 ^ k) (htab:Tab w) :
 Calls Tryz.prog 121 #[v] w fun e w'=>e=.returned (.string ⟨(Lib.decDigits n).toArray⟩)∧Bw w w':=by
 have H:=zAb h;have HT:=zAb htab;obtain⟨a,l,cap,rfl,hl,hr,hnm,rfl⟩:=h.form;have hlk:=Cub.len_le hnm hn;clear hn hl h htab
 by_cases h0:l=[]
 ·subst h0
  have e1:Lib.decDigits (Cub.lval 1000000000 [])=[48]:=by decide +kernel
  rw[e1];clear e1;go_enter Tryz.func121,Tryz.ntmps121
  go_wp2_with (go_at_call 153;refine(zCk _ _ _ ((un H).later bA)).mono ?_;rintro e w2 ⟨rfl,hb2⟩)
  go_ret
  exact⟨rfl,bA.trans (hb2.mono (by simp))⟩
 ·have hlp:0<l.length:=by cases l with|nil=>exact absurd rfl h0|cons a t=>simp
  obtain⟨len,hlen⟩:∃len,len=l.length:=⟨_,rfl⟩;rw[←hlen]at H hr hlk hlp ⊢
  have hz:(Cub.lval 1000000000 l == 0)=false:=by
   rw[beq_eq_false_iff_ne];intro e;exact h0 ((Cub.normal_zero hnm (by decide)).1 e)
  obtain⟨a',cap',ev,hc,hm,hcells⟩:=hr;simp only[Value.slice.injEq]at ev;obtain⟨rfl,hdum,rfl⟩:=ev;clear hdum;obtain⟨b,o,rfl,hbw,hcell⟩:=hcells h0;have HC:Hid (∀W,Below w.heap.size w W→∀i (hi:i<l.length),W.cell? ⟨b,o+i,none⟩=some (.int .u64 (l[i]:Int))):=fun W hW i hi=>(hW.cell (p:=⟨b,o+i,none⟩) hbw).trans (hcell i hi)
  have HZ:=zAb hz;have HN:=zAb hnm;have HLen:=zAb hlen;clear hcell hcells hz h0 hnm hlen hc hm;obtain⟨m,rfl⟩:∃m,len=m+1:=⟨len - 1,by omega⟩;have hml:m<l.length:=by have:=un HLen;omega
  obtain⟨x,hx⟩:∃x,x=l[m]:=⟨_,rfl⟩;have hxB:x<1000000000:=by rw[hx];exact(un HN).1 _ (List.getElem_mem hml)
  have HX:Hid (∀W,Below w.heap.size w W→W.cell? ⟨b,o+m,none⟩=some (.int .u64 (x:Int))):=fun W hW=>by rw[hx];exact un HC W hW m hml
  have HXl:=zAb hx;clear hx hlp;obtain⟨i5,hi5,hz50,hz51,hz52⟩:=info_parts Tryz.info5;go_enter Tryz.func121,Tryz.ntmps121
  go_wp2_with (first
   | (go_at_call 153;refine(zCk _ _ _ ((un H).later bA)).mono ?_;rintro e w2 ⟨rfl,hb2⟩;rw[un HZ];obtain⟨hcb,_⟩:=zBt hb2 (g:=w.heap.size) (x:=.slice (some ⟨b,o,none⟩) (m+1) cap) (by simp) (by simp) (by simp);have hb3:=((Below.refl w.heap.size w).alloc (Nat.le_refl _) (.cells #[.slice (some ⟨b,o,none⟩) (m+1) cap] 80)).trans (hb2.mono (by simp));have hs2:w.heap.size+1≤w2.heap.size:=(by have:=hb2.size;simpa using this);clear hb2)
   | (at_make;refine wpList_make_own _ rfl _ _ 208 rfl (w.heap.size+1) 5 i5 (.int .u8 0) 1 Tryz.underlying208 hi5 hz50 hz51 .i64 .i64 _ ((m+1)*9) rfl rfl (by omega) (by rw[hz52];omega) (by unfold maxLen;omega) hs2 ?_;intro w3 hown3 hgrow3;have hb4:Below (w.heap.size+1) w2 w3:=(Below.refl _ _).grown hgrow3 hs2 (fun k hk=>by cases hk);have hcb3:=(hb4.cell (p:=⟨w.heap.size,0,none⟩) (Nat.lt_succ_self _)).trans hcb;have hb5:=hb3.trans (hb4.mono (Nat.le_succ _));have hx3:=un HX w3 hb5;have hs3:w.heap.size+1≤w3.heap.size:=(by have:=hb4.size;omega);have HO3:=zAb hown3;clear hown3 hgrow3 hb4 hcb)
   | (go_at_call 189;refine(appendUint_any (w.heap.size+1) 0 x (by omega) _ [] _ (un HO3) hs3 (by omega) ((un HT).later hb5)).mono ?_;rintro e w4 ⟨v4,rfl,hown4,hb6⟩;have hcb4:=(hb6.cell (p:=⟨w.heap.size,0,none⟩) (Nat.lt_succ_self _)).trans hcb3;have hb7:=hb5.trans (hb6.mono (Nat.le_succ _));have hs4:w.heap.size+1≤w4.heap.size:=(by have:=hb6.size;omega);have HO4:=zAb hown4;clear hown4 hb6 hcb3))
  have hT0:(Lib.decDigits x).length≤9:=by rw[Lib.decDigits_length];exact Cub.nDigits_le9 x hxB
  have hst:w4.ownsRow (w.heap.size+1) 5 1 v4 (Lib.decDigits x).length (Lib.byteCells (Lib.decDigits x)):=by simpa using un HO4
  have HT0:Hid (Lib.decDigits x=Lib.decDigits (Cub.lval 1000000000 (l.drop m))):=by
   have e:l.drop m=[x]:=by
    rw[List.drop_eq_getElem_cons hml,←un HXl,List.drop_of_length_le (by have:=un HLen;omega)]
   rw[e];exact(by simp[Cub.lval]:Lib.decDigits x=Lib.decDigits (Cub.lval 1000000000 [x]))
  clear HO4 hx3
  go_loopw [4,5] (fun v i wr=>∃(j:Nat) (T:List UInt8),j≤m∧i=I ((j:Int) - 1)∧T.length≤9*(m+1 - j)∧Hid (T=Lib.decDigits (Cub.lval 1000000000 (l.drop j)))∧
   wr.ownsRow (w.heap.size+1) 5 1 v T.length (Lib.byteCells T)∧wr.cell? ⟨w.heap.size,0,none⟩=some (.slice (some ⟨b,o,none⟩) (m+1) cap)∧Bw w wr∧w.heap.size+1≤wr.heap.size)
   (fun _ i _=>(intOf i+1).toNat)
  case atStart=>exact⟨m,Lib.decDigits x,Nat.le_refl _,rfl,by omega,HT0,hst,hcb4,hb7,hs4⟩
  case round=>
   obtain⟨j,T,hjm,rfl,hTl,HTd,hown,hbox,hbl,hsz⟩:=hrel;clear hst hcb4 hb7 hs4 hT0 HT0
   by_cases hj0:j=0
   ·subst hj0
    have hTpos:0<T.length:=by
     rw[un HTd]
     cases e:Lib.decDigits (Cub.lval 1000000000 (l.drop 0))with
     | nil=>exact absurd e (Cub.dec_ne_nil _)
     | cons a t=>simp
    obtain⟨g,cg,rfl⟩:=Joins.ownsRow_form hown hTpos
    have hcv:=run_convert_bytes_back (P:=Tryz.prog) wr 208 9 5 ⟨g,0,none⟩ cg T Tryz.underlying208 Tryz.underlying5 Tryz.underlying9 (fun q hq=>by
     have:=hown.cellAt q (by simpa using hq);rw[Lib.add_plain,Nat.zero_add,this];simp[Lib.byteCells,hq])
    have HTd':Hid (T=Lib.decDigits (Cub.lval 1000000000 l)):=by have:=un HTd;rwa [List.drop_zero]at this
    clear hown HTd
    go_wp2
    go_ret
    exact⟨by rw[←un HTd'];rfl,hbl⟩
   ·obtain⟨i,rfl⟩:∃i,j=i+1:=⟨j - 1,by omega⟩
    have hil:i<l.length:=by have:=un HLen;omega
    obtain⟨d,hd⟩:∃d,d=l[i]:=⟨_,rfl⟩;have hdB:d<1000000000:=by rw[hd];exact(un HN).1 _ (List.getElem_mem hil)
    have HXd:Hid (∀W,Below w.heap.size w W→W.cell? ⟨b,o+i,none⟩=some (.int .u64 (d:Int))):=fun W hW=>by rw[hd];exact un HC W hW i hil
    have HDd:=zAb hd;clear hd hj0;rw[show(((i+1:Nat):Int) - 1)=(i:Int)from by omega]
    go_wp2
    go_loopw [4,6] (fun v u wq=>∃(q y:Nat) (T':List UInt8),q≤9∧u=.int .u64 (y:Int)∧y≤100000000∧Hid (y=Cub.unitOf q)∧T'.length+q≤T.length+9∧Hid (T'=T ++ Cub.padn (9 - q) (d / 10 ^ q))∧
     wq.ownsRow (w.heap.size+1) 5 1 v T'.length (Lib.byteCells T')∧wq.cell? ⟨w.heap.size,0,none⟩=some (.slice (some ⟨b,o,none⟩) (m+1) cap)∧Bw w wq∧w.heap.size+1≤wq.heap.size)
     (fun _ u _=>(intOf u).toNat)
    case atStart=>exact⟨9,100000000,T,Nat.le_refl _,rfl,Nat.le_refl _,rfl,Nat.le_refl _,(List.append_nil T).symm,hown,hbox,hbl,hsz⟩
    case round=>
     obtain⟨q,y,T',hq9,rfl,hy,HY,hTl',HT',hown',hbox',hbl',hsz'⟩:=hrel;clear hown hbox hbl hsz
     by_cases hq0:q=0
     ·subst hq0
      have hy0:y=0:=un HY;subst hy0
      have HTn:Hid (T'=Lib.decDigits (Cub.lval 1000000000 (l.drop i))):=by
       rw[Cub.dec_limb l i hil (un HN).1 (Cub.drop_pos (un HN) (i+1) (by have:=un HLen;omega)),←un HDd,←un HTd,un HT',Cub.pad_all];exact rfl
      go_wp2
      go_roundw
      case rel=>exact⟨i,T',by omega,rfl,by omega,HTn,hown',hbox',hbl',hsz'⟩
      case measure=>simp[intOf]
     ·obtain⟨p,rfl⟩:∃p,q=p+1:=⟨q - 1,by omega⟩
      have hyp:0<y:=by rw[un HY];exact(Cub.unit_pos _).2 (by omega)
      have hyz:((y:Int) == 0)=false:=by rw[beq_eq_false_iff_ne];omega
      have hxd:=un HXd wr hbl';clear hq0;obtain⟨z,hz⟩:∃z,z=d / y:=⟨_,rfl⟩;have hzd:z<1000000000:=by rw[hz];exact Nat.lt_of_le_of_lt (Nat.div_le_self _ _) hdB
      have hq:(d:Int) / (y:Int)=(z:Int):=by rw[hz];simp
      have HZd:Hid (z=d / 10 ^ p):=by rw[hz,un HY,Cub.unit_at];exact rfl
      clear hz
      go_wp2_with (at_builtin;refine wpList_append_own _ rfl _ _ 208 rfl (w.heap.size+1) 5 i5 (.int .u8 0) 1 1 Tryz.underlying208 hi5 hz50 hz51 hz52 rfl (by decide) _ _ _ rfl (hown'.alloc _) ⟨wr.heap.size,0,none⟩ 1 1 [.int .u8 (48+(z:Int) % 10)] rfl rfl (cell_one_new _ _ _) (fun x hx=>by simp at hx;subst hx;rfl) (by unfold maxLen;omega) (by omega) (by simp;omega) ?_;intro v' w1 hownN hgrow _)
      have hsN:w.heap.size+1≤w1.heap.size:=by have:=hgrow.size;simp at this;omega
      have hbN:Below (w.heap.size+1) wr w1:=((Below.refl _ _).alloc (by omega) _).grown hgrow (by simp;omega) (fun k hk=>(hown'.lt k hk).1);have hboxN:=(hbN.cell (p:=⟨w.heap.size,0,none⟩) (Nat.lt_succ_self _)).trans hbox';have hblN:=hbl'.trans (hbN.mono (Nat.le_succ _))
      have hown2:w1.ownsRow (w.heap.size+1) 5 1 v' (T' ++ [UInt8.ofNat (48+z % 10)]).length (Lib.byteCells (T' ++ [UInt8.ofNat (48+z % 10)])):=by
       rw[←byteCells_snoc _ _ (Nat.mod_lt _ (by decide))]
       simpa using hownN
      have HTn:Hid (T' ++ [UInt8.ofNat (48+z % 10)]=T ++ Cub.padn (9 - p) (d / 10 ^ p)):=by
       rw[un HT',List.append_assoc,un HZd,Cub.pad_step d p (by omega)];exact rfl
      have HYn:Hid (y / 10=Cub.unitOf p):=by rw[un HY,Cub.unit_div];exact rfl
      clear hownN hgrow hown' hbox' hbl' hbN hxd hq
      go_wp2
      go_roundw
      case rel=>exact⟨p,y / 10,T' ++ [UInt8.ofNat (48+z % 10)],by omega,by go_num,by omega,HYn,by simp;omega,HTn,hown2,hboxN,hblN,hsN⟩
      case measure=>simp[intOf];omega
end Go.Proofs.YtliadckofhblnaaGreatDoor
namespace Go.Proofs.YtliadckofhblnaaGreatDoor
open Go.ChangeShapes Go.WideShapes Go.ChangeAt Go.RowKit
theorem own:ownKnob Tryz.prog.godebug=none:=by kernel_rfl
theorem gPow:Tryz.prog.globalNamed "internal/strconv.uint64pow10"=some 2:=by kernel_rfl
theorem gPowType:(Tryz.prog.globals[2]?).map (·.type)=some 333:=by kernel_rfl
theorem cells333:Tryz.prog.cellsOf 333=20:=by kernel_rfl
theorem cells168:Tryz.prog.cellsOf 168=1:=by kernel_rfl
theorem tab_of {W:World} {l:List (String×DataW Unit)} (h:laidMet Tryz.prog l W) (e:l.filter (fun x=>x.1 == "internal/strconv.uint64pow10")=[("internal/strconv.uint64pow10",Rows.laid_internal_strconv_uint64pow10)]):Tab W:=by
 have h1:=laidMet.filter (fun x=>x.1 == "internal/strconv.uint64pow10") h
 rw[e]at h1;exact Lib.tabIs_of_head (rest:=[]) gPow gPowType Tryz.underlying333 Tryz.underlying168 cells168 cells333 h1
def cellsOf1:DataW Unit→List Value
 | .lit (.int k n)=>[Value.int k n]
 | .agg l=>l.map fun | .lit (.int k n)=>Value.int k n|_=>.nilIface
 | _=>[]
def zDd:DataW Unit→Array Value
 | .agg l=>(l.flatMap cellsOf1).toArray
 | _=>#[]
def putObj (h:Array Obj) (g:Nat) (c:Array Value):Array Obj:=h.modify g fun
 | .cells _ t frozen=>.cells c t frozen
 | o=>o
noncomputable def laidWorld (os:Os):World :=
 let w0:=World.holding Tryz.prog os ⟨#[],#[],[]⟩
 { w0 with heap:=putObj (putObj (putObj w0.heap 2 (zDd Rows.laid_internal_strconv_uint64pow10)) 4 (zDd Rows.laid_math_bits_deBruijn32tab)) 5 (zDd Rows.laid_math_bits_deBruijn64tab) }
end Go.Proofs.YtliadckofhblnaaGreatDoor
namespace Cub
theorem lval_set (B:Nat):∀(l:List Nat) (i:Nat) (x:Nat) (h:i<l.length),lval B (l.set i x)+B ^ i*l[i]=lval B l+B ^ i*x:=by
 intro l
 induction l with
 | nil=>intro i x h;simp at h
 | cons a l ih=>
  intro i x h
  cases i with
  | zero=>simp[lval];omega
  | succ i=>
   have hi:i<l.length:=by simpa using h
   have e:=ih i x hi
   simp only[List.set_cons_succ,lval,List.getElem_cons_succ,Nat.pow_succ]
   have e2:=congrArg (B*·) e
   simp only[Nat.mul_add]at e2
   have m1:B ^ i*B*l[i]=B*(B ^ i*l[i]):=by rw[Nat.mul_comm (B ^ i) B,Nat.mul_assoc]
   have m2:B ^ i*B*x=B*(B ^ i*x):=by rw[Nat.mul_comm (B ^ i) B,Nat.mul_assoc]
   omega
theorem limbs_set {B:Nat} {l:List Nat} (h:limbs B l) (i x:Nat) (hx:x<B):limbs B (l.set i x):=by
 intro y hy
 rcases List.mem_or_eq_of_mem_set hy with h1|h1
 ·exact h y h1
 ·omega
structure AddInv (lp lq:List Nat) (S:List Nat) (k i:Nat):Prop where
 len:S.length=lp.length+1
 lim:limbs 1000000000 S
 rest:∀j (h:j<S.length),i≤j→S[j]=(lp ++ [0])[j]'(by simp;omega)
 val:lval 1000000000 S+1000000000 ^ i*k=lval 1000000000 lp+lval 1000000000 (lq.take i)
 carry:k≤1
 place:i≤lp.length+1
theorem AddInv.start {lp lq:List Nat} (hp:limbs 1000000000 lp):AddInv lp lq (lp ++ [0]) 0 0 :=
 ⟨by simp,limbs_append.2 ⟨hp,fun x hx=>by rw[List.mem_singleton]at hx;omega⟩,fun j h _=>rfl,by rw[lval_snoc];simp[lval],by omega,by omega⟩
theorem take_val (l:List Nat) (i:Nat) (h:i<l.length):lval 1000000000 (l.take (i+1))=lval 1000000000 (l.take i)+1000000000 ^ i*l[i]:=by
 rw[List.take_succ_eq_append_getElem h,lval_snoc,List.length_take,Nat.min_eq_left (by omega)]
theorem take_val' (l:List Nat) (i:Nat) (h:l.length≤i):lval 1000000000 (l.take (i+1))=lval 1000000000 (l.take i):=by
 rw[List.take_of_length_le (by omega),List.take_of_length_le h]
theorem AddInv.step {lp lq S:List Nat} {k i c:Nat} (h:AddInv lp lq S k i) (hi:i<S.length) (hc:c<1000000000)
  (hcv:lval 1000000000 (lq.take (i+1))=lval 1000000000 (lq.take i)+1000000000 ^ i*c) :
  AddInv lp lq (S.set i ((k+S[i]+c) % 1000000000)) ((k+S[i]+c) / 1000000000) (i+1):=by
 have hS:=h.lim S[i] (List.getElem_mem hi)
 have hk:=h.carry
 have hl:=h.len
 refine⟨by simp[h.len],limbs_set h.lim i _ (Nat.mod_lt _ (by decide)),?_,?_,by omega,by omega⟩
 ·intro j hj hij
  rw[List.getElem_set_ne (by omega)]
  exact h.rest j (by simpa using hj) (by omega)
 ·have e1:=lval_set 1000000000 S i ((k+S[i]+c) % 1000000000) hi
  have e2:=h.val
  have e3:k+S[i]+c=1000000000*((k+S[i]+c) / 1000000000)+(k+S[i]+c) % 1000000000:=(Nat.div_add_mod _ _).symm
  generalize (k+S[i]+c) / 1000000000=q at *
  generalize (k+S[i]+c) % 1000000000=r at *
  rw[hcv,Nat.pow_succ]
  have e4:=congrArg (1000000000 ^ i*·) e3
  simp only[Nat.mul_add]at e4
  have m1:1000000000 ^ i*1000000000*q=1000000000 ^ i*(1000000000*q):=Nat.mul_assoc _ _ _
  omega
theorem AddInv.last {lp lq S:List Nat} {k i:Nat} (h:AddInv lp lq S k i) (hp:limbs 1000000000 lp) (hq:limbs 1000000000 lq) (hl:lq.length≤lp.length) (hi:i=lp.length+1):k=0:=by
 have h1:=lval_lt hp
 have h2:lval 1000000000 (lq.take i)<1000000000 ^ lp.length:=by
  have:=lval_lt (B:=1000000000) (l:=lq.take i) (fun x hx=>hq x (List.mem_of_mem_take hx))
  exact Nat.lt_of_lt_of_le this (Nat.pow_le_pow_right (by decide) (by rw[List.length_take];omega))
 have h3:=h.val
 rw[hi,Nat.pow_succ]at h3
 rcases Nat.eq_zero_or_pos k with h0|h0
 ·exact h0
 ·have:1000000000 ^ lp.length*1000000000*1≤1000000000 ^ lp.length*1000000000*k:=Nat.mul_le_mul_left _ h0
  rw[hi]at h2
  omega
theorem AddInv.sum {lp lq S:List Nat} {i:Nat} (h:AddInv lp lq S 0 i) (hi:lq.length≤i):lval 1000000000 S=lval 1000000000 lp+lval 1000000000 lq:=by
 have:=h.val
 rw[List.take_of_length_le hi]at this
 simpa using this
end Cub
namespace Go.Proofs.YtliadckofhblnaaGreatDoor
open Go.RowKit
theorem Tryz.size168:(Tryz.prog.info? 168).map (·.size)=some 1:=by kernel_rfl
def Cells (w:World) (a:Option Addr) (l:List Nat):Prop :=
 ∀W,Below w.heap.size w W→∀i (hi:i<l.length),∃b o,a=some ⟨b,o,none⟩∧W.cell? ⟨b,o+i,none⟩=some (.int .u64 (l[i]:Int))
theorem Row.cells {w:World} {a:Option Addr} {n cap:Nat} {l:List Nat} (h:Row w (.slice a n cap) l):n=l.length∧n≤cap∧cap≤9223372036854775807∧Cells w a l:=by
 obtain⟨a',cap',e,hc,hm,hr⟩:=h;simp only[Value.slice.injEq]at e;obtain⟨rfl,rfl,rfl⟩:=e;refine⟨rfl,hc,hm,fun W hW i hi=>?_⟩;obtain⟨b,o,rfl,hlt,hcell⟩:=hr (fun e=>by rw[e]at hi;simp at hi);exact⟨b,o,rfl,(hW.cell (p:=⟨b,o+i,none⟩) hlt).trans (hcell i hi)⟩
theorem Cells.src {w W:World} {a:Option Addr} {l:List Nat} (h:Cells w a l) (hW:Below w.heap.size w W) (h0:0<l.length) :
  ∃ad,a=some ad∧∀j v,(zCx l)[j]?=some v→W.cell? (ad.add j)=some v:=by
 obtain⟨b,o,rfl,_⟩:=h W hW 0 h0;refine⟨⟨b,o,none⟩,rfl,fun j v hj=>?_⟩
 have hjl:j<l.length:=by
  have:=(List.getElem?_eq_some_iff.1 hj).1
  rwa [u64s_length]at this
 rw[u64s_get l j hjl,Option.some.injEq]at hj;obtain⟨b',o',e,hc⟩:=h W hW j hjl;simp only[Option.some.injEq,Addr.mk.injEq]at e;obtain⟨rfl,rfl,_⟩:=e;rw[Lib.add_plain,hc,hj]
theorem splice_sum (l:List Nat) (n:Nat) (h:n=l.length):splice (zCx (List.replicate (n+1) 0)) 0 (zCx l)=zCx (l ++ [0]):=by
 subst h;unfold splice zCx;simp
theorem zGd (l:List Nat):∀v∈zCx l,v.oneCell'=true:=by
 intro v hv;simp only[zCx,List.mem_map]at hv;obtain⟨x,_,rfl⟩:=hv
 rfl
structure Boxes3 (w w4:World) (a b c:Value):Prop where
 c1:w4.cell? ⟨w.heap.size,0,none⟩=some a
 c2:w4.cell? ⟨w.heap.size+1,0,none⟩=some b
 c3:w4.cell? ⟨w.heap.size+1+1,0,none⟩=some c
 f3:w4.frozen? ⟨w.heap.size+1+1,0,none⟩=false
 below:Below w.heap.size w w4
 size:w.heap.size+3≤w4.heap.size
theorem boxes3 {w w4:World} {a b c:Value} (hb:Below (w.heap.size+3) (((w.alloc (.cells #[a] 80)).alloc (.cells #[b] 80)).alloc (.cells #[c] 80)) w4):Boxes3 w w4 a b c:=by
 refine⟨?_,?_,?_,?_,?_,?_⟩
 ·rw[hb.cell (p:=⟨w.heap.size,0,none⟩) (show w.heap.size<w.heap.size+3 by omega)];simp[go_sem]
 ·rw[hb.cell (p:=⟨w.heap.size+1,0,none⟩) (show w.heap.size+1<w.heap.size+3 by omega)];simp[go_sem]
 ·rw[hb.cell (p:=⟨w.heap.size+1+1,0,none⟩) (show w.heap.size+1+1<w.heap.size+3 by omega)];simp[go_sem]
 ·rw[hb.frozen (p:=⟨w.heap.size+1+1,0,none⟩) (show w.heap.size+1+1<w.heap.size+3 by omega)];simp[go_sem]
 ·exact((bA.alloc (by simp) _).alloc (by simp;omega) _).trans (hb.mono (by omega))
 ·have:=hb.size;simp at this;omega
theorem Boxes3.on {w w4 w5:World} {a b c:Value} (h:Boxes3 w w4 a b c) (hb:Below (w.heap.size+3) w4 w5):Boxes3 w w5 a b c :=
 ⟨(hb.cell (p:=⟨w.heap.size,0,none⟩) (show w.heap.size<w.heap.size+3 by omega)).trans h.c1,(hb.cell (p:=⟨w.heap.size+1,0,none⟩) (show w.heap.size+1<w.heap.size+3 by omega)).trans h.c2,
  (hb.cell (p:=⟨w.heap.size+1+1,0,none⟩) (show w.heap.size+1+1<w.heap.size+3 by omega)).trans h.c3,(hb.frozen (p:=⟨w.heap.size+1+1,0,none⟩) (show w.heap.size+1+1<w.heap.size+3 by omega)).trans h.f3,
  h.below.trans (hb.mono (by omega)),by have:=hb.size;have:=h.size;omega⟩
end Go.Proofs.YtliadckofhblnaaGreatDoor

/- The document's less, and its trim at any place of a row. -/
import Derived.Deep.RegionHeldLaw
import Derived.Test.YtliadckofhblnaaGreatDoorGcdFirst
set_option maxHeartbeats 2000000
set_option maxRecDepth 100000
namespace Cub
theorem pow4 (m:Nat):10 ^ (4*m)=10000 ^ m:=by rw[Nat.pow_mul]
theorem dval_cut4 (l:List UInt8) (m e f:Nat) (he:e+4*m=l.length) (hf:f≤e) :
    dval (l.drop f)=dval (l.drop e)+10000 ^ m*dval ((l.drop f).take (e - f)):=by
  have h1:l.drop f=(l.drop f).take (e - f) ++ l.drop e:=by
    have:=List.take_append_drop (e - f) (l.drop f);rw[List.drop_drop]at this;rw[show f+(e - f)=e by omega]at this;exact this.symm
  rw[←pow4];have hl:(l.drop e).length=4*m:=by rw[List.length_drop];omega
  rw[h1,dval_append,hl,←h1,Nat.mul_comm,Nat.add_comm]
theorem seg4_lt {l:List UInt8} (h:digs l) (f k:Nat) (hk:k≤4):dval ((l.drop f).take k)<10000:=by
  have h1:=dval_lt (digs_sub h f k);have h2:((l.drop f).take k).length≤4:=by rw[List.length_take];omega
  have h3:10 ^ ((l.drop f).take k).length≤10 ^ 4:=Nat.pow_le_pow_right (by decide) h2
  omega
theorem cut4_step (l:List UInt8) (L:List Nat) (e f:Nat) (he:e+4*L.length=l.length) (hf:f=e - 4) (hd:digs l) (hL:limbs 10000 L)
    (hv:lval 10000 L=dval (l.drop e)) :
    limbs 10000 (L ++ [dval ((l.drop f).take (e - f))])∧lval 10000 (L ++ [dval ((l.drop f).take (e - f))])=dval (l.drop f):=by
  refine⟨limbs_append.2 ⟨hL,fun x hx=>?_⟩,?_⟩
  · rw[List.mem_singleton]at hx;subst hx;exact seg4_lt hd f _ (by omega)
  · rw[lval_snoc,hv,dval_cut4 l L.length e f he (by omega)]
end Cub
namespace Go.Proofs.YtliadckofhblnaaGreatDoor.Tm
open Go.RowKit
theorem Tryz.info3:(Tryz.prog.info? 3).map (fun i=>(i.zero,i.size,i.bytes))=some (some (I 0),1,8):=by kernel_rfl
def zJe (l:List Nat):List Value:=l.map fun x:Nat=>I (x:Int)
theorem i64s_length (l:List Nat):(zJe l).length=l.length:=by simp[zJe]
theorem i64s_get (l:List Nat) (i:Nat) (h:i<l.length):(zJe l)[i]?=some (I (l[i]:Int)):=by simp[zJe,h]
def zHu (w:World) (base:Nat) (v:Value) (l:List Nat):Prop:=w.ownsRow base 3 1 v l.length (zJe l)
def CellsI (w:World) (a:Option Addr) (l:List Nat):Prop :=
  ∀W,Below w.heap.size w W→∀i (hi:i<l.length),∃b,a=some ⟨b,0,none⟩∧W.cell? ⟨b,i,none⟩=some (I (l[i]:Int))
theorem zHu.open {w:World} {base:Nat} {v:Value} {l:List Nat} (h:zHu w base v l):∃a cap,v=.slice a l.length cap∧l.length≤cap∧cap≤9223372036854775807∧CellsI w a l:=by
  have h':w.ownsRow base 3 1 v l.length (zJe l):=h;rcases Joins.ownsRow_forms h' with ⟨rfl,h0⟩|⟨g,cap,rfl⟩
  · refine⟨none,0,by rw[h0],by omega,by omega,fun W hW i hi=>by omega⟩
  · obtain⟨hx,h2⟩:=id h'
    rcases h2 with ⟨e,_⟩|⟨g',cap',cur,e,hb,hg,hcap,hmax,hsz,htk⟩
    · cases e
    · simp only[Value.slice.injEq,Option.some.injEq,Addr.mk.injEq]at e
      obtain⟨⟨rfl,_⟩,_,rfl⟩:=e;refine⟨some ⟨g,0,none⟩,cap,rfl,hcap,hmax,fun W hW i hi=>⟨g,rfl,?_⟩⟩;have hlt:g<w.heap.size:=(Array.getElem?_eq_some_iff.1 hg).1;rw[hW.cell (p:=⟨g,i,none⟩) hlt,h'.cellAt i (by omega),i64s_get l i hi]
theorem zHu.later {w w':World} {base:Nat} {v:Value} {l:List Nat} (h:zHu w base v l) (hb:Below w.heap.size w w'):zHu w' base v l:=by
  obtain⟨hx,h2⟩:=h;refine⟨hx,?_⟩;rcases h2 with h2|⟨g,cap,cur,e,hbs,hg,r⟩
  · exact Or.inl h2
  · exact Or.inr ⟨g,cap,cur,e,hbs,(hb.block g (Array.getElem?_eq_some_iff.1 hg).1).trans hg,r⟩
theorem zHu.take {w:World} {base n cap:Nat} {a:Option Addr} {l:List Nat} (h:zHu w base (.slice a n cap) l) (k:Nat) (hk:k≤n):zHu w base (.slice a k cap) (l.take k):=by
  obtain⟨hx,h2⟩:=h;rcases h2 with ⟨e,h0⟩|⟨g,cap',cur,e,hbs,hg,hcap,hmax,hsz,htk⟩
  · simp only[Value.slice.injEq]at e
    obtain⟨rfl,rfl,rfl⟩:=e;have:l=[]:=List.length_eq_zero_iff.1 h0;subst this;have hk0:k=0:=by simpa using hk
    subst hk0;exact World.ownsRow_nil _ _ _ _
  · simp only[Value.slice.injEq]at e
    obtain⟨rfl,rfl,rfl⟩:=e;have hl:(l.take k).length=k:=by rw[List.length_take];omega
    unfold zHu;rw[hl];refine⟨by rw[i64s_length,hl];omega,Or.inr ⟨g,cap,cur,rfl,hbs,hg,by omega,hmax,hsz,?_⟩⟩;rw[Nat.mul_one]at htk ⊢;have e3:cur.toList.take k=(cur.toList.take l.length).take k:=by rw[List.take_take,Nat.min_eq_left hk]
    rw[e3,htk];simp[zJe,List.map_take]
def lenOf:Value→Nat | .slice _ n _=>n|_=>0
theorem zHv (v:Value) (base:Nat) (l:List Nat) (w:World) (h:zHu w base v l) :
    Calls Tryz.prog 244 #[v] w fun e w'=>∃v',e=.returned v'∧zHu w base v' (Cub.trimN l)∧w'=w:=by
  obtain⟨a,cap,rfl,hc,hm,hcells⟩:=h.open;have H:=zAb h;have HC:=zAb hcells;clear h hcells;obtain⟨n,hn⟩:∃n,n=l.length:=⟨_,rfl⟩;rw[←hn]at H hc ⊢;have HN:=zAb hn;clear hn;go_enter Tryz.func244,Tryz.ntmps244
  go_wp2
  go_loop [0] (fun t=>∃k:Nat,k≤n∧t=.slice a k cap∧Hid (Cub.trimN (l.take k)=Cub.trimN l)) (fun t=>lenOf t)
  case atStart=>exact⟨n,Nat.le_refl _,rfl,by rw[List.take_of_length_le (by have:=un HN;omega)];exact rfl⟩
  case round=>
    obtain⟨k,hk,rfl,ht⟩:=hrel;have HT:=ht;clear ht
    by_cases hk0:k=0
    · subst hk0
      have E:Hid (Cub.trimN l=l.take 0):=by rw[←un HT];exact rfl
      go_wp2
      go_ret
      exact⟨_,rfl,by rw[un E];exact(un H).take 0 (Nat.zero_le _),rfl⟩
    · obtain⟨j,rfl⟩:∃j,k=j+1:=⟨k - 1,by omega⟩
      have hlt:j<l.length:=by have:=un HN;omega
      obtain⟨b,rfl,hx⟩:=un HC w (Below.refl _ _) j hlt
      by_cases hz:l[j]=0
      · rw[hz]at hx
        have E:Hid (Cub.trimN (l.take j)=Cub.trimN l):=by
          rw[←un HT,List.take_succ_eq_append_getElem hlt,hz,Cub.trimN_snoc_zero];exact rfl
        clear hz
        go_wp2
        go_round
        case rel=>exact⟨j,by omega,by first|rfl|go_num,E⟩
        case measure=>simp[lenOf]
      · have E:Hid (Cub.trimN l=l.take (j+1)):=by
          rw[←un HT,List.take_succ_eq_append_getElem hlt,Cub.trimN_snoc _ _ hz];exact rfl
        have hz':((l[j]:Int) == 0)=false:=by rw[beq_eq_false_iff_ne];omega
        clear hz
        go_wp2
        go_ret
        exact⟨_,rfl,by rw[un E];exact(un H).take (j+1) hk,rfl⟩
end Go.Proofs.YtliadckofhblnaaGreatDoor.Tm
namespace Go.Proofs.YtliadckofhblnaaGreatDoor.Tm
open Go.RowKit
theorem cut4_start (l:List UInt8) (n:Nat) (h:l.length=n):(n:Int)=(n:Int) - 4*(([]:List Nat).length:Int)∧Cub.limbs 10000 []∧Cub.lval 10000 []=Cub.dval (l.drop (n - 4*([]:List Nat).length)):=by
  subst h;refine⟨by simp,fun _ h=>(by cases h),?_⟩;simp[Cub.lval,Cub.dval]
theorem zHt (s:ByteArray) (w:World) (hs:s.size≤1000000000) (hd:Cub.digs s.data.toList) :
    Calls Tryz.prog 243 #[.string s] w fun e w'=>∃v l,e=.returned v∧zHu w' w.heap.size v l∧Cub.normal 10000 l∧Cub.lval 10000 l=Cub.dval s.data.toList∧Bw w w':=by
  have HD:=zAb hd;clear hd;obtain⟨i0,hi,hz0,hz1,hz2⟩:=info_parts Tryz.info3;go_enter Tryz.func243,Tryz.ntmps243
  go_wp2
  go_loopw [3,4] (fun v i wr=>∃(L:List Nat) (x:Int),i=I x∧x≤1000000000∧-4<x∧L.length≤400000000∧Hid (x=(s.size:Int) - 4*(L.length:Int)∧Cub.limbs 10000 L∧Cub.lval 10000 L=Cub.dval (s.data.toList.drop (s.size - 4*L.length)))∧
      wr.ownsRow w.heap.size 3 1 v L.length (zJe L)∧Bw w wr) (fun _ i _=>(intOf i).toNat)
  case atStart=>exact⟨[],(s.size:Int),rfl,by omega,by omega,by simp,cut4_start _ _ (zBq s),World.ownsRow_nil _ _ _ _,Below.refl _ _⟩
  case round=>
    obtain⟨L,x,rfl,hx1,hx4,hLl,HX,hown,hb⟩:=hrel
    by_cases hx:0<x
    · obtain⟨e,rfl⟩:=Int.eq_ofNat_of_zero_le (Int.le_of_lt hx)
      have he0:Hid (e+4*L.length=s.size):=by have:=(un HX).1;exact(by omega:e+4*L.length=s.size)
      have hes:e≤s.size:=by have:=un he0;omega
      have HDs:Hid (∀k (hk:k<s.size),48≤s[k].toNat∧s[k].toNat≤57):=fun k hk=>un HD s[k] (by rw[←list_get s k hk];exact List.getElem_mem _)
      by_cases h4:4≤e
      all_goals
        go_wp2
        go_loop [6,7] (fun y i=>∃(k n:Nat),e - 4≤k∧k≤e∧i=I k∧y=I n∧n<10000∧Hid (n=Cub.dval ((s.data.toList.drop (e - 4)).take (k - (e - 4))))) (fun _ i=>e - (intOf i).toNat)
        case atStart=>exact⟨e - 4,0,Nat.le_refl _,by omega,by go_num,rfl,by omega,by rw[Nat.sub_self];exact rfl⟩
        case round=>
          obtain⟨k,n,hk1,hk2,rfl,rfl,hn,HN⟩:=hrel
          by_cases hlt:k<e
          · have hks:k<s.size:=by omega
            obtain⟨d1,d2⟩:=un HDs k hks
            have HN':Hid (10*n+(s[k].toNat - 48)=Cub.dval ((s.data.toList.drop (e - 4)).take (k+1 - (e - 4)))):=by
              rw[Cub.seg_succ _ _ _ hk1 (by rw[zBq];exact hks),←un HN,Nat.mul_comm];exact rfl
            have hn':10*n+(s[k].toNat - 48)<10000:=by rw[un HN'];exact Cub.seg4_lt (un HD) _ _ (by omega)
            go_wp2
            go_round
            case rel=>exact⟨k+1,10*n+(s[k].toNat - 48),by omega,by omega,by go_num,by go_num,hn',HN'⟩
            case measure=>simp[intOf];omega
          · have hke:k=e:=by omega
            subst hke;clear hlt
            go_wp2_with (at_builtin;refine wpList_append_own _ rfl _ _ 255 rfl w.heap.size 3 i0 (I 0) 1 8 Tryz.underlying255 hi hz0 hz1 hz2 rfl (by decide) _ _ _ rfl (hown.alloc _) ⟨wr.heap.size,0,none⟩ 1 1 [I (n:Int)] rfl rfl (cell_one_new _ _ _) (fun x hx=>by simp at hx;subst hx;rfl) (by unfold maxLen;omega) (by omega) (by have:=hb.size;simp at this ⊢;omega) ?_;intro v' w1 hown' hgrow _)
            have hsz:=hb.size;have hb':Below w.heap.size w w1:=(hb.alloc hsz _).grown hgrow (by simp;omega) (fun j hj=>(hown.lt j hj).1);have hown2:w1.ownsRow w.heap.size 3 1 v' (L ++ [n]).length (zJe (L ++ [n])):=by simpa [zJe] using hown'
            have HS:=Cub.cut4_step s.data.toList L k (k - 4) (by rw[zBq];exact un he0) rfl (un HD) (un HX).2.1 (by have:=(un HX).2.2;rw[this];congr 2;have:=un he0;omega);rw[←un HN]at HS;have HS':=zAb HS;clear hgrow hown' HS hown hsz
            go_wp2
            go_roundw
            case rel=>exact⟨L ++ [n],(k:Int) - 4,rfl,by omega,by omega,by have:=un he0;simp;omega,⟨by have:=un he0;simp;omega,(un HS').1,by rw[(un HS').2];congr 2;have:=un he0;simp;omega⟩,hown2,hb'⟩
            case measure=>simp[intOf];omega
    · have hfin:Cub.lval 10000 (Cub.trimN L)=Cub.dval s.data.toList∧Cub.normal 10000 (Cub.trimN L):=by
        obtain⟨h1,h2,h3⟩:=un HX;obtain⟨t1,t2,_⟩:=Cub.lval_trim 10000 _ L rfl;refine⟨?_,t2 h2⟩;rw[t1,h3,show s.size - 4*L.length=0 by omega,List.drop_zero]
      have HF:=zAb hfin;have HO:Hid (zHu wr w.heap.size u3 L):=hown;clear hfin hown
      go_wp2_with (go_at_call 244;refine(zHv _ _ L _ (un HO)).mono ?_;rintro e w2 ⟨v',rfl,hrow2,rfl⟩)
      go_ret
      exact⟨v',_,rfl,hrow2,(un HF).2,(un HF).1,hb⟩
end Go.Proofs.YtliadckofhblnaaGreatDoor.Tm
namespace Cub
open Go.Lib (decDigits)
def padAll:List Nat→List UInt8
  | []=>[]
  | x :: t=>padAll t ++ padn 4 x
theorem padAll_drop (l:List Nat) (i:Nat) (hi:i<l.length):padAll (l.drop i)=padAll (l.drop (i+1)) ++ padn 4 l[i]:=by
  rw[List.drop_eq_getElem_cons hi];rfl
theorem padn_digs (k:Nat):∀d,digs (padn k d):=by
  induction k with
  | zero=>intro d;exact digs_nil
  | succ k ih=>
    intro d;refine zFj.2 ⟨ih _,fun c hc=>?_⟩;rw[List.mem_singleton]at hc;subst hc;rw[toNat_dig _ (by omega)];omega
theorem padAll_digs (l:List Nat):digs (padAll l):=by
  induction l with
  | nil=>exact digs_nil
  | cons x t ih=>exact zFj.2 ⟨ih,padn_digs 4 x⟩
theorem padn_val (k:Nat):∀d,d<10 ^ k→dval (padn k d)=d:=by
  induction k with
  | zero => intro d h;have:d=0:=by simpa using h
            subst this;rfl
  | succ k ih=>
    intro d h;simp only[padn];rw[dval_snoc,ih _ (by rw[Nat.pow_succ]at h;omega),toNat_dig _ (by omega)];omega
theorem padAll_val (l:List Nat) (h:limbs 10000 l):dval (padAll l)=lval 10000 l:=by
  induction l with
  | nil=>rfl
  | cons x t ih=>
    simp only[padAll,lval];rw[dval_append,padn_length,ih (fun y hy=>h y (List.mem_cons_of_mem _ hy)),padn_val 4 x (h x (by simp))];omega
theorem pad4 (x:Nat) (h:x<10000):padn 4 x=[UInt8.ofNat (48+x / 1000),UInt8.ofNat (48+x / 100 % 10),UInt8.ofNat (48+x / 10 % 10),UInt8.ofNat (48+x % 10)]:=by
  simp only[padn,List.nil_append,List.cons_append,Nat.div_div_eq_div_mul];rw[show x / (10*(10*10)) % 10=x / 1000 from by omega]
theorem dval_noughts (k:Nat):dval (List.replicate k 48)=0:=by
  induction k with
  | zero=>rfl
  | succ k ih=>rw[List.replicate_succ,dval_cons,ih];simp
theorem strip_noughts (P:List UInt8) (k:Nat) (hk:k<P.length) (hd:digs P) (h0:∀j (hj:j<P.length),j<k→P[j]=48) (h1:P[k]≠48):P.drop k=decDigits (dval P):=by
  have e1:dval P=dval (P.drop k):=by
    have e2:P.take k=List.replicate k 48:=by
      apply List.ext_getElem
      · simp;omega
      · intro j h1 h2
        simp only[List.getElem_take,List.getElem_replicate];exact h0 j (by simp at h1;omega) (by simp at h1;omega)
    have e3:=dval_noughts k;have:=dval_append (P.take k) (P.drop k);rw[List.take_append_drop,e2,e3]at this
    simpa using this
  rw[e1];refine(dec_dval _ _ rfl ⟨fun c hc=>hd c (List.mem_of_mem_drop hc),?_,fun h=>?_⟩).symm
  · intro e;have:=congrArg List.length e;simp at this;omega
  · rw[List.head?_drop,List.getElem?_eq_getElem hk,Option.some.injEq]at h;exact absurd h h1
theorem some_digit (P:List UInt8) (h:0<dval P):∃j,∃hj:j<P.length,P[j]≠48:=by
  apply Decidable.byContradiction
  intro hn;have h0:∀j (hj:j<P.length),P[j]=48:=fun j hj=>Decidable.byContradiction fun h1=>hn ⟨j,hj,h1⟩
  have:dval P=0:=by
    clear h hn
    induction P with
    | nil=>rfl
    | cons x t ih=>
      rw[dval_cons,ih (fun j hj=>h0 (j+1) (by simpa using hj))];have:=h0 0 (by simp);simp at this;subst this;simp
  omega
end Cub
namespace Go.Proofs.YtliadckofhblnaaGreatDoor.Tm
open Go.RowKit
theorem step_append_own {P:Program} {ops:Array Oper} {o:Oper} {a:Act} {w:World} {K:Act→World→Prop} {Q:Exit→Act→World→Prop} {E:Prop}
    (hg:o.guard=none) (s x:Operand) (t:TypeId) (ho:o.op=.call { callee:=.builtin .append,args:=#[s,x],argTypes:=#[t,t] })
    (base:Nat) (e:TypeId) (i:TypeInfo) (z:Value) (size bytes:Nat) (ht:P.underlying t=some (.slice e)) (hi:P.info? e=some i) (hz:i.zero=some z)
    (hsize:i.size=size) (hby:i.bytes=bytes) (hzs:z.cells.size=size) (hsz:0<size)
    (v:Value) (n:Nat) (xs:List Value) (hs:a.eval s=v) (hown:w.ownsRow base e size v n xs)
    (ad:Addr) (m c:Nat) (news:List Value) (hx:a.eval x=.slice (some ad) m c) (hl:news.length=m*size) (hnews:∀j u,news[j]?=some u→w.cell? (ad.add j)=some u) (h1:∀u∈news,u.oneCell'=true)
    (h63:n+m≤maxLen) (hbytes:(n+m)*bytes≤140737488355328) (hbase:base≤w.heap.size)
    (h:∀v' w',w'.ownsRow base e size v' (n+m) (xs ++ news)→w.grownBy w' v.ownBlock→K (a.put o.dst v') w') :
    if Region.wanted o (yielded ops a.tmps)=true then Oper.wp P o a w K Q else E:=by
  have hw:Region.wanted o (yielded ops a.tmps)=true:=by simp[Region.wanted,hg]
  rw[if_pos hw];exact wp_append_own w s x t ho base e i z size bytes ht hi hz hsize hby hzs hsz v n xs hs hown ad m c news hx hl hnews h1 h63 hbytes hbase fun v' w' h2 h3 _=>h v' w' h2 h3
end Go.Proofs.YtliadckofhblnaaGreatDoor.Tm
namespace Go.Proofs.YtliadckofhblnaaGreatDoor.Tm
open Go.RowKit
def four (x:Nat):List Value:=[Value.int .u8 (48+(x:Int) / 1000),.int .u8 (48+(x:Int) / 100 % 10),.int .u8 (48+(x:Int) / 10 % 10),.int .u8 (48+(x:Int) % 10)]
theorem byteCells_pad (l:List UInt8) (x:Nat) (h:x<10000):Lib.byteCells l ++ four x=Lib.byteCells (l ++ Cub.padn 4 x):=by
  rw[Lib.byteCells_append,Cub.pad4 x h]
  congr 1
  simp only[Lib.byteCells,List.map_cons,List.map_nil,four];rw[Cub.toNat_dig _ (by omega),Cub.toNat_dig _ (by omega),Cub.toNat_dig _ (by omega),Cub.toNat_dig _ (by omega)]
  rfl
def fourW (x:Nat):List Value:=[Value.int .u8 (IntKind.u8.wrap (IntKind.i64.wrap (48+IntKind.i64.wrap ((x:Int) / 1000)))),Value.int .u8 (IntKind.u8.wrap (IntKind.i64.wrap (48+(IntKind.i64.wrap ((x:Int) / 100)).tmod 10))),Value.int .u8 (IntKind.u8.wrap (IntKind.i64.wrap (48+(IntKind.i64.wrap ((x:Int) / 10)).tmod 10))),Value.int .u8 (IntKind.u8.wrap (IntKind.i64.wrap (48+(x:Int).tmod 10)))]
theorem w64 (n:Int) (h0:0≤n) (h1:n≤100000):IntKind.i64.wrap n=n:=IntWalk.i64_in _ ⟨by omega,by omega⟩
theorem w8 (n:Int) (h0:0≤n) (h1:n≤255):IntKind.u8.wrap n=n:=by rw[IntKind.wrap_u8];omega
theorem tm (n:Int) (h0:0≤n):n.tmod 10=n % 10:=Int.tmod_eq_emod_of_nonneg h0
theorem fourW_eq (x:Nat) (h:x<10000):fourW x=four x:=by
  unfold fourW four;rw[w64 ((x:Int) / 1000) (by omega) (by omega),w64 ((x:Int) / 100) (by omega) (by omega),w64 ((x:Int) / 10) (by omega) (by omega),tm ((x:Int) / 100) (by omega),tm ((x:Int) / 10) (by omega),tm (x:Int) (by omega)];rw[w64 _ (by omega) (by omega),w64 _ (by omega) (by omega),w64 _ (by omega) (by omega),w64 _ (by omega) (by omega)];rw[w8 _ (by omega) (by omega),w8 _ (by omega) (by omega),w8 _ (by omega) (by omega),w8 _ (by omega) (by omega)]
theorem cells4 (W:World) (x:Nat):∀j u,(fourW x)[j]?=some u→((W.alloc (.cells #[Value.int .u8 (IntKind.u8.wrap (IntKind.i64.wrap (48+IntKind.i64.wrap ((x:Int) / 1000)))),Value.int .u8 (IntKind.u8.wrap (IntKind.i64.wrap (48+(IntKind.i64.wrap ((x:Int) / 100)).tmod 10))),Value.int .u8 (IntKind.u8.wrap (IntKind.i64.wrap (48+(IntKind.i64.wrap ((x:Int) / 10)).tmod 10))),Value.int .u8 (IntKind.u8.wrap (IntKind.i64.wrap (48+(x:Int).tmod 10)))] 5)).drew).cell? ((⟨W.heap.size,0,none⟩:Addr).add j)=some u:=by
  intro j u hj;rw[Lib.add_plain,Nat.zero_add];show(W.alloc _).cell? _=_;rw[World.cell?_alloc_at _ _ _ _ rfl];unfold fourW at hj
  simpa using hj
theorem zJa (v:Value) (base:Nat) (l:List Nat) (w:World) (h:zHu w base v l) (hn:Cub.normal 10000 l) (hl:l.length≤1000000) :
    Calls Tryz.prog 241 #[v] w fun e w'=>e=.returned (.string ⟨(Lib.decDigits (Cub.lval 10000 l)).toArray⟩)∧Bw w w':=by
  obtain⟨a,cap,rfl,hc,hm,hcells⟩:=h.open;have HC:=zAb hcells;have HN:=zAb hn;obtain⟨n,hnl⟩:∃n,n=l.length:=⟨_,rfl⟩;rw[←hnl]at hl hc ⊢;have HL:=zAb hnl;clear h hcells hn hnl
  by_cases h0:n=0
  · subst h0
    have hl0:l=[]:=List.length_eq_zero_iff.1 (un HL).symm;have HE:Hid (Lib.decDigits (Cub.lval 10000 l)=[48]):=by rw[hl0];exact(by decide +kernel:Lib.decDigits (Cub.lval 10000 [])=[48])
    rw[un HE];clear hl0;go_enter Tryz.func241,Tryz.ntmps241
    go_wp2
    go_ret
    exact⟨rfl,Below.refl _ _⟩
  · have hz : ((n:Int) == 0)=false:=by rw[beq_eq_false_iff_ne];omega
    obtain⟨i5,hi5,hz50,hz51,hz52⟩:=info_parts Tryz.info5;go_enter Tryz.func241,Tryz.ntmps241
    go_wp2_with (at_make;refine wpList_make_own _ rfl _ _ 208 rfl w.heap.size 5 i5 (.int .u8 0) 1 Tryz.underlying208 hi5 hz50 hz51 .i64 .i64 _ (4*n) rfl rfl (by omega) (by rw[hz52];omega) (by unfold maxLen;omega) (Nat.le_refl _) ?_;intro w3 hown3 hgrow3)
    have hb3:Below w.heap.size w w3:=(Below.refl _ _).grown hgrow3 (Nat.le_refl _) (fun k hk=>by cases hk);have hst:w3.ownsRow w.heap.size 5 1 (.slice (some ⟨w.heap.size,0,none⟩) 0 (4*n)) 0 (Lib.byteCells []):=hown3;clear hown3 hgrow3
    go_loopw [3,4] (fun v i wr=>∃(j:Nat) (P:List UInt8),j≤n∧i=I ((j:Int) - 1)∧Hid (P.length=4*(n - j))∧Hid (P=Cub.padAll (l.drop j))∧wr.ownsRow w.heap.size 5 1 v P.length (Lib.byteCells P)∧Bw w wr) (fun _ i _=>(intOf i+1).toNat)
    case atStart=>exact⟨n,[],Nat.le_refl _,rfl,by rw[Nat.sub_self];exact rfl,by rw[List.drop_of_length_le (by have:=un HL;omega)];exact rfl,hst,hb3⟩
    case round=>
      obtain⟨j,P,hj,rfl,HPl,HP,hown,hb⟩:=hrel;have hP2:P.length≤4*(n - j):=by have:=un HPl;omega
      clear hst hb3
      by_cases hj0:j=0
      · subst hj0
        have hnm:=un HN;have HV:Hid (Cub.dval P=Cub.lval 10000 l):=by rw[un HP,List.drop_zero,Cub.padAll_val l hnm.1];exact rfl
        have hdg:Cub.digs P:=by rw[un HP];exact Cub.padAll_digs _
        have hpos:0<Cub.dval P:=by
          rw[un HV];rcases Nat.eq_zero_or_pos (Cub.lval 10000 l)with h|h
          · have:=(Cub.normal_zero hnm (by decide)).1 h
            have h2:=un HL;rw[this]at h2;simp at h2;omega
          · exact h
        obtain⟨jd,hjd,hne⟩:=Cub.some_digit P hpos;have hP4:P.length=4*n:=by have:=un HPl;omega
        obtain⟨g,cg,rfl⟩:=Joins.ownsRow_form hown (by omega)
        have HCell:Hid (∀q (hq:q<P.length),wr.cell? ⟨g,q,none⟩=some (.int .u8 (P[q].toNat:Int))):=fun q hq=>by
          rw[hown.cellAt q (by simpa using hq)];simp[Lib.byteCells,hq]
        obtain⟨_,hcg,hcm⟩:True∧P.length≤cg∧cg≤9223372036854775807:=by
          rcases hown.2 with ⟨e,_⟩|⟨g',c',cur,e,_,_,hcap,hmax,_⟩
          · simp at e
          · simp only[Value.slice.injEq]at e;obtain⟨_,_,rfl⟩:=e;exact⟨trivial,hcap,hmax⟩
        have HDg:=zAb hdg;have HNe:=zAb hne;have hP5:P.length≤4*n:=by omega
        clear hnm hdg hpos hne hown hP2 hP4
        go_wp2
        go_loop [5] (fun t=>∃k:Nat,k≤jd∧t=I (k:Int)∧Hid (∀q (hq:q<P.length),q<k→P[q]=48)) (fun t=>jd - (intOf t).toNat)
        case atStart=>exact⟨0,Nat.zero_le _,rfl,fun q _ h=>absurd h (Nat.not_lt_zero _)⟩
        case round=>
          obtain⟨k,hk,rfl,HK⟩:=hrel;have hkP:k<P.length:=by omega
          have hx:=un HCell k hkP
          by_cases h48:P[k]=48
          · have hkj:k<jd:=by
              rcases Nat.lt_or_ge k jd with h|h
              · exact h
              · exfalso
                have e:k=jd:=by omega
                subst e;exact un HNe h48
            have HK':Hid (∀q (hq:q<P.length),q<k+1→P[q]=48):=fun q hq h=>by
              by_cases e:q<k
              · exact un HK q hq e
              · have:q=k:=by omega
                subst this;exact h48
            have h48':((P[k].toNat:Int) == 48)=true:=by rw[beq_iff_eq];exact(byte_48 _).2 h48
            clear h48
            go_wp2
            go_round
            case rel=>exact⟨k+1,by omega,by go_num,HK'⟩
            case measure=>simp[intOf];omega
          · have h48':((P[k].toNat:Int) == 48)=false:=by rw[beq_eq_false_iff_ne];exact fun h=>h48 ((byte_48 _).1 h)
            have HE:Hid (P.drop k=Lib.decDigits (Cub.lval 10000 l)):=by rw[←un HV];exact Cub.strip_noughts P k hkP (un HDg) (un HK) h48
            have hcv:=run_convert_bytes_back (P:=Tryz.prog) wr 208 9 5 ⟨g,k,none⟩ (cg - k) (P.drop k) Tryz.underlying208 Tryz.underlying5 Tryz.underlying9 (fun q hq=>by
              rw[Lib.add_plain,un HCell (k+q) (by rw[List.length_drop]at hq;omega),List.getElem_drop])
            rw[List.length_drop]at hcv;clear h48
            go_wp2
            go_ret
            exact⟨by rw[←un HE];rfl,hb⟩
      · obtain⟨i,rfl⟩:∃i,j=i+1:=⟨j - 1,by omega⟩
        have hil:i<l.length:=by have:=un HL;omega
        obtain⟨d,hd⟩:∃d,d=l[i]:=⟨_,rfl⟩;have hdB:d<10000:=by rw[hd];exact(un HN).1 _ (List.getElem_mem hil)
        obtain⟨b,rfl,hx⟩:=un HC wr hb i hil;rw[←hd]at hx;have HD:=zAb hd;have hin:(i:Int)<(n:Int):=by omega
        have hbw:b<wr.heap.size:=World.block_lt_of_cell? wr ⟨b,i,none⟩ hx
        have hbo:some b≠u3.ownBlock:=by
          intro e;obtain⟨b',eb,hx'⟩:=un HC w (Below.refl _ _) i hil;simp only[Option.some.injEq,Addr.mk.injEq]at eb;have h1:=World.block_lt_of_cell? w ⟨b',i,none⟩ hx';have h2:=(hown.lt b e.symm).1;have h3:b'<w.heap.size:=h1
          omega
        have hl1:P.length+4≤maxLen:=by unfold maxLen;omega
        have hl2:(P.length+4)*1≤140737488355328:=by omega
        have hl3:w.heap.size≤wr.heap.size:=hb.size;have hl4:∀W:World,w.heap.size≤wr.heap.size→W.heap.size=wr.heap.size→∀o,w.heap.size≤(W.alloc o).heap.size:=fun W h1 h2 o=>by simp;omega
        have hone:∀u∈fourW d,u.oneCell'=true:=by
          intro u hu;simp only[fourW,List.mem_cons,List.not_mem_nil,or_false]at hu;rcases hu with rfl|rfl|rfl|rfl<;>rfl
        clear hd hj0;rw[show(((i+1:Nat):Int) - 1)=(i:Int)from by omega]
        go_wp2
        go_region_held_law (fun w'=>w'.cell? ⟨b,i,none⟩=some (I (d:Int))) (first|go_keep|exact hgrow.cell (by simp[*]) hbo) (first|(refine step_append_own rfl _ _ 208 rfl w.heap.size 5 i5 (.int .u8 0) 1 1 Tryz.underlying208 hi5 hz50 hz51 hz52 rfl (by decide) _ _ _ rfl (hown.alloc _).drew ⟨wr.heap.size,0,none⟩ 4 4 (fourW d) rfl rfl (cells4 _ _) hone hl1 hl2 (hl4 _ hl3 rfl _) ?_;intro v' w1 hown' hgrow))
        have hsz1:w.heap.size≤w1.heap.size:=by have:=hgrow.size;simp at this;omega
        have hb1:Below w.heap.size w w1:=((hb.alloc hb.size _).drew).grown hgrow (by simp;omega) (fun k hk=>(hown.lt k hk).1)
        have hownN:w1.ownsRow w.heap.size 5 1 v' (P ++ Cub.padn 4 d).length (Lib.byteCells (P ++ Cub.padn 4 d)):=by
          rw[←byteCells_pad P d hdB,←fourW_eq d hdB];rw[List.length_append,Cub.padn_length];exact hown'
        have HPN:Hid (P ++ Cub.padn 4 d=Cub.padAll (l.drop i)):=by
          rw[Cub.padAll_drop l i hil,←un HP,←un HD];exact rfl
        have HPLN:Hid ((P ++ Cub.padn 4 d).length=4*(n - i)):=by
          rw[List.length_append,Cub.padn_length];have:=un HPl;exact(by omega:P.length+4=4*(n - i))
        clear hown' hgrow hown hb hone hl1 hl2 hl3 hl4 hx
        go_wp2
        go_roundw
        case rel=>exact⟨i,P ++ Cub.padn 4 d,by omega,rfl,HPLN,HPN,hownN,hb1⟩
        case measure=>simp[intOf]
end Go.Proofs.YtliadckofhblnaaGreatDoor.Tm
namespace Cub
structure PlusInv (B:Nat) (x y S:List Nat) (k:Nat):Prop where
 lim:limbs B S
 val:lval B S+B ^ S.length*k=lval B (x.take S.length)+lval B (y.take S.length)
 carry:k≤1
theorem PlusInv.start (B:Nat) (x y:List Nat):PlusInv B x y [] 0:=⟨fun _ h=>(by cases h),by simp[lval],by omega⟩
theorem PlusInv.step {B:Nat} {x y S:List Nat} {k:Nat} (h:PlusInv B x y S k) (hB:1<B) (hx:x.getD S.length 0<B) (hy:y.getD S.length 0<B) :
 PlusInv B x y (S ++ [(k+x.getD S.length 0+y.getD S.length 0) % B]) ((k+x.getD S.length 0+y.getD S.length 0) / B):=by
 have hk:=h.carry;refine⟨limbs_append.2 ⟨h.lim,fun z hz=>?_⟩,?_,?_⟩
 ·rw[List.mem_singleton]at hz;subst hz;exact Nat.mod_lt _ (by omega)
 ·rw[lval_snoc,List.length_append,List.length_singleton,takeB,takeB,Nat.pow_succ]
  have e:=h.val;generalize x.getD S.length 0=a at *
  generalize y.getD S.length 0=b at *
  have e3:k+a+b=B*((k+a+b) / B)+(k+a+b) % B:=(Nat.div_add_mod _ _).symm;generalize (k+a+b) / B=q at *
  generalize (k+a+b) % B=r at *
  have e4:=congrArg (B ^ S.length*·) e3;simp only[Nat.mul_add]at e4;have m1:B ^ S.length*B*q=B ^ S.length*(B*q):=Nat.mul_assoc _ _ _
  omega
 ·have:(k+x.getD S.length 0+y.getD S.length 0)<2*B:=by omega
  have:=Nat.div_lt_of_lt_mul (show(k+x.getD S.length 0+y.getD S.length 0)<B*2 by omega)
  omega
theorem PlusInv.sum {B:Nat} {x y S:List Nat} (h:PlusInv B x y S 0) (h1:x.length≤S.length) (h2:y.length≤S.length):lval B S=lval B x+lval B y:=by
 have:=h.val;rw[List.take_of_length_le h1,List.take_of_length_le h2]at this
 simpa using this
theorem getD_lt {B:Nat} {l:List Nat} (h:limbs B l) (hB:0<B) (i:Nat):l.getD i 0<B:=by
 by_cases hi:i<l.length
 ·simp only[List.getD,List.getElem?_eq_getElem hi,Option.getD_some];exact h _ (List.getElem_mem hi)
 ·simpa [List.getD,Nat.le_of_not_lt hi] using hB
theorem len_leB {B:Nat} (hB:1<B) {l:List Nat} {k:Nat} (h:normal B l) (hk:lval B l<B ^ k):l.length≤k:=by
 by_cases hne:l=[]
 ·subst hne;simp
 ·have h1:=normal_ge h hne
  have h2:=(Nat.pow_lt_pow_iff_right hB).1 (Nat.lt_of_le_of_lt h1 hk)
  omega
theorem len_le4 {l:List Nat} {d:List UInt8} (hd:digs d) (h:normal 10000 l) (hv:lval 10000 l=dval d):l.length≤d.length:=by
 apply len_leB (by decide) h
 rw[hv];have h1:=dval_lt hd;have h2:10 ^ d.length≤10000 ^ d.length:=Nat.pow_le_pow_left (by decide) _
 omega
end Cub
namespace Go.Proofs.YtliadckofhblnaaGreatDoor.Tm
open Go.RowKit
theorem refPlus_any (s t:ByteArray) (w:World) (hs:s.size≤100000) (ht:t.size≤100000) (hds:Cub.digs s.data.toList) (hdt:Cub.digs t.data.toList) :
 Calls Tryz.prog 192 #[.string s,.string t] w fun e w'=>e=.returned (.string ⟨(Lib.decDigits (Cub.dval s.data.toList+Cub.dval t.data.toList)).toArray⟩)∧Bw w w':=by
 have HDS:=zAb hds;have HDT:=zAb hdt;clear hds hdt;obtain⟨i0,hi,hz0,hz1,hz2⟩:=info_parts Tryz.info3;go_enter Tryz.func192,Tryz.ntmps192
 go_wp2_with (first
  | (go_at_call_of 243 s;refine(zHt s _ (by omega) (un HDS)).mono ?_;rintro e w1 ⟨vx,lx,rfl,hox,hnx,hvx,hb1⟩;obtain⟨ax,cx,rfl,hcx,hmx,hcellx⟩:=hox.open;have HX:=zAb (And.intro hnx (And.intro hvx hcellx));clear hnx hvx hcellx hox)
  | (go_at_call_of 243 t;refine(zHt t _ (by omega) (un HDT)).mono ?_;rintro e w2 ⟨vy,ly,rfl,hoy,hny,hvy,hb2⟩;obtain⟨ay,cy,rfl,hcy,hmy,hcelly⟩:=hoy.open;have HY:=zAb (And.intro hny (And.intro hvy hcelly));clear hny hvy hcelly hoy))
 have hbx:lx.length≤100000:=by have:=Cub.len_le4 (un HDS) (un HX).1 (un HX).2.1;rw[zBq]at this;omega
 have hby:ly.length≤100000:=by have:=Cub.len_le4 (un HDT) (un HY).1 (un HY).2.1;rw[zBq]at this;omega
 obtain⟨nx,hnx⟩:∃nx,nx=lx.length:=⟨_,rfl⟩;obtain⟨ny,hny⟩:∃ny,ny=ly.length:=⟨_,rfl⟩;rw[←hnx]at hbx ⊢;rw[←hny]at hby ⊢;have HNX:=zAb hnx;have HNY:=zAb hny;have hb12:Below w.heap.size w w2:=hb1.trans (hb2.mono hb1.size);have HB2:=zAb (And.intro hb12 hb2);clear hnx hny hb12 hb2 hb1 hcx hcy hmx hmy
 go_loopw [7,8,9] (fun v c i wr=>∃(S:List Nat) (k j:Nat),c=I (k:Int)∧i=I (j:Int)∧k≤1∧j≤nx+ny+1∧Hid (j=S.length∧(k=0∨j≤nx∨j≤ny))∧Hid (Cub.PlusInv 10000 lx ly S k)∧wr.ownsRow w2.heap.size 3 1 v j (zJe S)∧Bw w2 wr) (fun _ _ i _=>nx+ny+2 - (intOf i).toNat)
 case atStart=>exact⟨[],0,0,rfl,rfl,by omega,by omega,⟨rfl,Or.inl rfl⟩,Cub.PlusInv.start _ _ _,World.ownsRow_nil _ _ _ _,Below.refl _ _⟩
 case round=>
  obtain⟨S,k,j,rfl,rfl,hk,hj,HJ,HI,hown,hb⟩:=hrel;obtain⟨xv,hxv⟩:∃xv,xv=lx.getD j 0:=⟨_,rfl⟩;obtain⟨yv,hyv⟩:∃yv,yv=ly.getD j 0:=⟨_,rfl⟩;have hxB:xv<10000:=by rw[hxv];exact Cub.getD_lt (un HX).1.1 (by decide) _
  have hyB:yv<10000:=by rw[hyv];exact Cub.getD_lt (un HY).1.1 (by decide) _
  have HI':Hid (Cub.PlusInv 10000 lx ly (S ++ [(k+xv+yv) % 10000]) ((k+xv+yv) / 10000)):=by
   have:=(un HI).step (by decide) (by rw[←(un HJ).1,←hxv];exact hxB) (by rw[←(un HJ).1,←hyv];exact hyB);rw[←(un HJ).1,←hxv,←hyv]at this;exact this
  have hX0:¬j<nx→xv=0:=fun h=>by rw[hxv,List.getD_eq_getElem?_getD,List.getElem?_eq_none (by have:=un HNX;omega)];rfl
  have hY0:¬j<ny→yv=0:=fun h=>by rw[hyv,List.getD_eq_getElem?_getD,List.getElem?_eq_none (by have:=un HNY;omega)];rfl
  have hXc:j<nx→∃b,ax=some ⟨b,0,none⟩∧wr.cell? ⟨b,j,none⟩=some (I (xv:Int)):=fun h=>by
   have hl:j<lx.length:=by have:=un HNX;omega
   obtain⟨b,e,hc⟩:=(un HX).2.2 wr ((un HB2).2.trans (hb.mono (un HB2).2.size)) j hl;refine⟨b,e,?_⟩;rw[hc,hxv,List.getD_eq_getElem?_getD,List.getElem?_eq_getElem hl];rfl
  have hYc:j<ny→∃b,ay=some ⟨b,0,none⟩∧wr.cell? ⟨b,j,none⟩=some (I (yv:Int)):=fun h=>by
   have hl:j<ly.length:=by have:=un HNY;omega
   obtain⟨b,e,hc⟩:=(un HY).2.2 wr hb j hl;refine⟨b,e,?_⟩;rw[hc,hyv,List.getD_eq_getElem?_getD,List.getElem?_eq_getElem hl];rfl
  have hsz:=hb.size;clear hxv hyv
  by_cases hx:j<nx
  ·obtain⟨bx,rfl,hcx⟩:=hXc hx
   by_cases hy:j<ny
   ·obtain⟨by',rfl,hcy⟩:=hYc hy
    clear hXc hYc hX0 hY0
    go_wp2_with (at_builtin;refine wpList_append_own _ rfl _ _ 255 rfl w2.heap.size 3 i0 (I 0) 1 8 Tryz.underlying255 hi hz0 hz1 hz2 rfl (by decide) _ _ _ rfl (hown.alloc _) ⟨wr.heap.size,0,none⟩ 1 1 [I (((k:Int)+(xv:Int)+(yv:Int)) % 10000)] rfl rfl (cell_one_new _ _ _) (fun x hx=>by simp at hx;subst hx;rfl) (by unfold maxLen;omega) (by omega) (by simp;omega) ?_;intro v' w3 hown' hgrow _)
    have hb3:Below w2.heap.size w2 w3:=(hb.alloc hsz _).grown hgrow (by simp;omega) (fun q hq=>(hown.lt q hq).1)
    have hownN:w3.ownsRow w2.heap.size 3 1 v' (j+1) (zJe (S ++ [(k+xv+yv) % 10000])):=by
     have e:zJe (S ++ [(k+xv+yv) % 10000])=zJe S ++ [I (((k:Int)+(xv:Int)+(yv:Int)) % 10000)]:=by
      simp only[zJe,List.map_append,List.map_cons,List.map_nil];rw[show((((k+xv+yv) % 10000:Nat)):Int)=((k:Int)+(xv:Int)+(yv:Int)) % 10000 by omega]
     rw[e];exact hown'
    clear hown' hgrow hown hb
    go_wp2
    go_roundw
    case rel=>exact⟨S ++ [(k+xv+yv) % 10000],(k+xv+yv) / 10000,j+1,by go_num,by go_num,(un HI').carry,by omega,⟨by rw[List.length_append,(un HJ).1];rfl,by have:=(un HJ).2;omega⟩,HI',hownN,hb3⟩
    case measure=>simp[intOf];omega
   ·have hy0:=hY0 hy
    subst hy0;clear hXc hYc hX0 hY0
    go_wp2_with (at_builtin;refine wpList_append_own _ rfl _ _ 255 rfl w2.heap.size 3 i0 (I 0) 1 8 Tryz.underlying255 hi hz0 hz1 hz2 rfl (by decide) _ _ _ rfl (hown.alloc _) ⟨wr.heap.size,0,none⟩ 1 1 [I (((k:Int)+(xv:Int)) % 10000)] rfl rfl (cell_one_new _ _ _) (fun x hx=>by simp at hx;subst hx;rfl) (by unfold maxLen;omega) (by omega) (by simp;omega) ?_;intro v' w3 hown' hgrow _)
    have hb3:Below w2.heap.size w2 w3:=(hb.alloc hsz _).grown hgrow (by simp;omega) (fun q hq=>(hown.lt q hq).1)
    have hownN:w3.ownsRow w2.heap.size 3 1 v' (j+1) (zJe (S ++ [(k+xv+0) % 10000])):=by
     have e:zJe (S ++ [(k+xv+0) % 10000])=zJe S ++ [I (((k:Int)+(xv:Int)) % 10000)]:=by
      simp only[zJe,List.map_append,List.map_cons,List.map_nil];rw[show((((k+xv+0) % 10000:Nat)):Int)=((k:Int)+(xv:Int)) % 10000 by omega]
     rw[e];exact hown'
    clear hown' hgrow hown hb
    go_wp2
    go_roundw
    case rel=>exact⟨S ++ [(k+xv+0) % 10000],(k+xv+0) / 10000,j+1,by go_num,by go_num,(un HI').carry,by omega,⟨by rw[List.length_append,(un HJ).1];rfl,by have:=(un HJ).2;omega⟩,HI',hownN,hb3⟩
    case measure=>simp[intOf];omega
  ·have hx0:=hX0 hx
   subst hx0
   by_cases hy:j<ny
   ·obtain⟨by',rfl,hcy⟩:=hYc hy
    clear hXc hYc hX0 hY0
    go_wp2_with (at_builtin;refine wpList_append_own _ rfl _ _ 255 rfl w2.heap.size 3 i0 (I 0) 1 8 Tryz.underlying255 hi hz0 hz1 hz2 rfl (by decide) _ _ _ rfl (hown.alloc _) ⟨wr.heap.size,0,none⟩ 1 1 [I (((k:Int)+(yv:Int)) % 10000)] rfl rfl (cell_one_new _ _ _) (fun x hx=>by simp at hx;subst hx;rfl) (by unfold maxLen;omega) (by omega) (by simp;omega) ?_;intro v' w3 hown' hgrow _)
    have hb3:Below w2.heap.size w2 w3:=(hb.alloc hsz _).grown hgrow (by simp;omega) (fun q hq=>(hown.lt q hq).1)
    have hownN:w3.ownsRow w2.heap.size 3 1 v' (j+1) (zJe (S ++ [(k+0+yv) % 10000])):=by
     have e:zJe (S ++ [(k+0+yv) % 10000])=zJe S ++ [I (((k:Int)+(yv:Int)) % 10000)]:=by
      simp only[zJe,List.map_append,List.map_cons,List.map_nil];rw[show((((k+0+yv) % 10000:Nat)):Int)=((k:Int)+(yv:Int)) % 10000 by omega]
     rw[e];exact hown'
    clear hown' hgrow hown hb
    go_wp2
    go_roundw
    case rel=>exact⟨S ++ [(k+0+yv) % 10000],(k+0+yv) / 10000,j+1,by go_num,by go_num,(un HI').carry,by omega,⟨by rw[List.length_append,(un HJ).1];rfl,by have:=(un HJ).2;omega⟩,HI',hownN,hb3⟩
    case measure=>simp[intOf];omega
   ·have hy0:=hY0 hy
    subst hy0;clear hXc hYc hX0 hY0
    by_cases hk0:k=0
    ·subst hk0
     obtain⟨t1,t2,_⟩:=Cub.lval_trim 10000 _ S rfl
     have HF:Hid (Cub.lval 10000 (Cub.trimN S)=Cub.dval s.data.toList+Cub.dval t.data.toList∧Cub.normal 10000 (Cub.trimN S)):=by
      refine⟨?_,t2 (un HI).lim⟩;rw[t1,(un HI).sum (by have:=un HNX;have:=(un HJ).1;omega) (by have:=un HNY;have:=(un HJ).1;omega),(un HX).2.1,(un HY).2.1]
     have hSl:S.length≤300000:=by have:=(un HJ).1;omega
     have hTl:(Cub.trimN S).length≤1000000:=by
      obtain⟨q,hq⟩:=(Cub.lval_trim 10000 _ S rfl).2.2;have:=congrArg List.length hq;rw[List.length_append]at this;omega
     have HO:Hid (zHu wr w2.heap.size u7 S):=by have h:=hown;rw[(un HJ).1]at h;exact h
     have hb5:Below w.heap.size w wr:=(un HB2).1.trans (hb.mono (un HB2).1.size);clear t1 t2 hown
     go_wp2_with (first
      | (go_at_call 244;refine(zHv _ _ S _ (un HO)).mono ?_;rintro e w5 ⟨v5,rfl,ho5,rfl⟩;have HO5:=zAb ho5;clear ho5)
      | (go_at_call 241;refine(zJa _ _ _ _ (un HO5) (un HF).2 hTl).mono ?_;rintro e w6 ⟨rfl,hb6⟩))
     go_ret
     exact⟨by rw[(un HF).1];rfl,hb5.trans (hb6.mono hb5.size)⟩
    ·have hk1:0<k:=by omega
     go_wp2_with (at_builtin;refine wpList_append_own _ rfl _ _ 255 rfl w2.heap.size 3 i0 (I 0) 1 8 Tryz.underlying255 hi hz0 hz1 hz2 rfl (by decide) _ _ _ rfl (hown.alloc _) ⟨wr.heap.size,0,none⟩ 1 1 [I (((k:Int)) % 10000)] rfl rfl (cell_one_new _ _ _) (fun x hx=>by simp at hx;subst hx;rfl) (by unfold maxLen;omega) (by omega) (by simp;omega) ?_;intro v' w3 hown' hgrow _)
     have hb3:Below w2.heap.size w2 w3:=(hb.alloc hsz _).grown hgrow (by simp;omega) (fun q hq=>(hown.lt q hq).1)
     have hownN:w3.ownsRow w2.heap.size 3 1 v' (j+1) (zJe (S ++ [(k+0+0) % 10000])):=by
      have e:zJe (S ++ [(k+0+0) % 10000])=zJe S ++ [I (((k:Int)) % 10000)]:=by
       simp only[zJe,List.map_append,List.map_cons,List.map_nil];rw[show((((k+0+0) % 10000:Nat)):Int)=((k:Int)) % 10000 by omega]
      rw[e];exact hown'
     clear hown' hgrow hown hb
     go_wp2
     go_roundw
     case rel=>exact⟨S ++ [(k+0+0) % 10000],(k+0+0) / 10000,j+1,by go_num,by go_num,(un HI').carry,by have:=(un HJ).2;omega,⟨by rw[List.length_append,(un HJ).1];rfl,by have:=(un HJ).2;omega⟩,HI',hownN,hb3⟩
     case measure=>simp[intOf];omega
end Go.Proofs.YtliadckofhblnaaGreatDoor.Tm
namespace Cub
structure MinusInv (B:Nat) (x y D:List Nat) (k i:Nat):Prop where
 len:D.length=x.length
 lim:limbs B D
 rest:∀j (h:j<D.length),i≤j→D[j]=x[j]'(by omega)
 val:lval B D+lval B (y.take i)=lval B x+B ^ i*k
 borrow:k≤1
theorem MinusInv.start {B:Nat} {x:List Nat} (y:List Nat) (hx:limbs B x):MinusInv B x y x 0 0:=⟨rfl,hx,fun _ _ _=>rfl,by simp[lval],by omega⟩
theorem MinusInv.step {B:Nat} {x y D:List Nat} {k i d k':Nat} (h:MinusInv B x y D k i) (hi:i<D.length) (hd:d<B) (hk:k'≤1)
 (he:d+k+y.getD i 0=D[i]+B*k'):MinusInv B x y (D.set i d) k' (i+1):=by
 refine⟨by simp[h.len],limbs_set h.lim i _ hd,fun j hj hij=>?_,?_,hk⟩
 ·rw[List.getElem_set_ne (by omega)]
  exact h.rest j (by simpa using hj) (by omega)
 ·have e1:=lval_set B D i d hi
  have e2:=h.val;rw[takeB,Nat.pow_succ];have e3:=congrArg (B ^ i*·) he;simp only[Nat.mul_add]at e3;have m1:B ^ i*B*k'=B ^ i*(B*k'):=Nat.mul_assoc _ _ _
  omega
theorem MinusInv.last {B:Nat} {x y D:List Nat} {k i:Nat} (h:MinusInv B x y D k i) (hi:i=x.length) (hy:y.length≤x.length) (hle:lval B y≤lval B x):k=0∧lval B D=lval B x - lval B y:=by
 have h1:=lval_lt h.lim;have h2:=h.val;rw[List.take_of_length_le (by omega),hi]at h2;rw[h.len]at h1;rcases Nat.eq_zero_or_pos k with h0|h0
 ·subst h0;exact⟨rfl,by omega⟩
 ·exfalso
  have:B ^ x.length*1≤B ^ x.length*k:=Nat.mul_le_mul_left _ h0
  omega
theorem normal_len_le {B:Nat} (hB:1<B) {x y:List Nat} (hx:limbs B x) (hy:normal B y) (h:lval B y≤lval B x):y.length≤x.length:=by
 apply len_leB hB hy
 exact Nat.lt_of_le_of_lt h (lval_lt hx)
end Cub
namespace Go.Proofs.YtliadckofhblnaaGreatDoor.Tm
open Go.RowKit
theorem zJk (l:List Nat) (i x:Nat):(zJe l).set i (I (x:Int))=zJe (l.set i x):=by simp[zJe,List.map_set]
theorem refMinus_any (s t:ByteArray) (w:World) (hs:s.size≤100000) (ht:t.size≤100000) (hds:Cub.digs s.data.toList) (hdt:Cub.digs t.data.toList) (hle:Cub.dval t.data.toList≤Cub.dval s.data.toList) :
 Calls Tryz.prog 194 #[.string s,.string t] w fun e w'=>e=.returned (.string ⟨(Lib.decDigits (Cub.dval s.data.toList - Cub.dval t.data.toList)).toArray⟩)∧Bw w w':=by
 have HDS:=zAb hds;have HDT:=zAb hdt;have HLE:=zAb hle;clear hds hdt hle;go_enter Tryz.func194,Tryz.ntmps194
 go_wp2_with (first
  | (go_at_call_of 243 s;refine(zHt s _ (by omega) (un HDS)).mono ?_;rintro e w1 ⟨vx,lx,rfl,hox,hnx,hvx,hb1⟩;have HX:=zAb (And.intro hnx (And.intro hvx hox));clear hnx hvx hox)
  | (go_at_call_of 243 t;refine(zHt t _ (by omega) (un HDT)).mono ?_;rintro e w2 ⟨vy,ly,rfl,hoy,hny,hvy,hb2⟩;have HY:=zAb (And.intro hny (And.intro hvy hoy));clear hny hvy hoy))
 have hbx:lx.length≤100000:=by have:=Cub.len_le4 (un HDS) (un HX).1 (un HX).2.1;rw[zBq]at this;omega
 have hyx:ly.length≤lx.length:=Cub.normal_len_le (by decide) (un HX).1.1 (un HY).1 (by rw[(un HX).2.1,(un HY).2.1];exact un HLE);have hox2:zHu w2 w.heap.size vx lx:=(un HX).2.2.later hb2;have hoy2:zHu w2 w1.heap.size vy ly:=(un HY).2.2;have HXb:Hid (∀g,vx.ownBlock=some g→w.heap.size≤g∧g<w1.heap.size):=fun g hg=>World.ownsRow.lt (un HX).2.2 g hg
 obtain⟨nx,hnx⟩:∃nx,nx=lx.length:=⟨_,rfl⟩;obtain⟨ny,hny⟩:∃ny,ny=ly.length:=⟨_,rfl⟩;obtain⟨ax,cx,rfl,hcx,hmx,_⟩:=hox2.open;obtain⟨ay,cy,rfl,hcy,hmy,_⟩:=hoy2.open;have HO2:=zAb (And.intro hox2 hoy2);rw[←hnx]at hbx hyx HO2 HXb ⊢;rw[←hny]at hyx HO2 ⊢;have HNX:=zAb hnx;have HNY:=zAb hny;have hb12:Below w.heap.size w w2:=hb1.trans (hb2.mono hb1.size);clear hnx hny hb2 hb1 hcx hcy hmx hmy hox2 hoy2
 go_loopw [7,8] (fun c i wr=>∃(D:List Nat) (k j:Nat),c=I (k:Int)∧i=I (j:Int)∧k≤1∧j≤nx∧Hid (Cub.MinusInv 10000 lx ly D k j)∧Hid (zHu wr w.heap.size (.slice ax nx cx) D)∧Hid (zHu wr w1.heap.size (.slice ay ny cy) ly)∧Hid (Bw w wr)) (fun _ i _=>nx - (intOf i).toNat)
 case atStart=>exact⟨lx,0,0,rfl,rfl,by omega,by omega,Cub.MinusInv.start _ (un HX).1.1,(un HO2).1,(un HO2).2,hb12⟩
 case round=>
  obtain⟨D,k,j,rfl,rfl,hk,hj,HI,HO,HOy,HB⟩:=hrel;have hDn:nx=D.length:=by rw[(un HI).len];exact un HNX
  by_cases hjn:j<nx
  ·have hjD:j<D.length:=by omega
   have hoxn:wr.ownsRow w.heap.size 3 1 (.slice ax nx cx) nx (zJe D):=by have h:=un HO;unfold zHu at h;rw[←hDn]at h;exact h
   obtain⟨g,cg,e⟩:=Joins.ownsRow_form hoxn (by omega);simp only[Value.slice.injEq,true_and]at e;obtain⟨rfl,rfl⟩:=e;have hgb:=un HXb g rfl;obtain⟨dv,hdv⟩:∃dv,dv=D[j]:=⟨_,rfl⟩;have hdB:dv<10000:=by rw[hdv];exact(un HI).lim _ (List.getElem_mem hjD)
   have hcd:wr.cell? ⟨g,j,none⟩=some (I (dv:Int)):=by rw[hoxn.cellAt j (by omega),i64s_get D j hjD,hdv]
   have hfd:wr.frozen? ⟨g,j,none⟩=false:=hoxn.frozenAt j;have HDV:=zAb hdv;obtain⟨yv,hyv⟩:∃yv,yv=ly.getD j 0:=⟨_,rfl⟩;have hyB:yv<10000:=by rw[hyv];exact Cub.getD_lt (un HY).1.1 (by decide) _
   have hoy:=un HOy;have hb:=un HB;have HYV:=zAb hyv
   by_cases hy:j<ny
   ·have hjl:j<ly.length:=by have:=un HNY;omega
    obtain⟨ay2,cy2,e2,_,_,hcy⟩:=hoy.open;simp only[Value.slice.injEq]at e2;obtain⟨rfl,_,rfl⟩:=e2;obtain⟨b,rfl,hcb⟩:=hcy wr (Below.refl _ _) j hjl;rw[show ly[j]=yv by rw[hyv,List.getD_eq_getElem?_getD,List.getElem?_eq_getElem hjl];rfl]at hcb;clear hdv hyv hcy HOy HO HB
    by_cases hneg:dv<k+yv
    ·have hn':(dv:Int) - (k:Int) - (yv:Int)<0:=by omega
     have HI':Hid (Cub.MinusInv 10000 lx ly (D.set j (dv+10000 - k - yv)) 1 (j+1)):=(un HI).step hjD (by omega) (by omega) (by rw[←un HYV,←un HDV];omega)
     have HO':Hid (zHu (wr.setCell ⟨g,j,none⟩ (I ((dv:Int) - (k:Int) - (yv:Int)+10000))) w.heap.size (.slice (some ⟨g,0,none⟩) nx cx) (D.set j (dv+10000 - k - yv))):=by
      have h:=(World.ownsRow.stored hoxn j (I (((dv+10000 - k - yv:Nat)):Int))).1;rw[zJk]at h;rw[show(((dv+10000 - k - yv:Nat)):Int)=(dv:Int) - (k:Int) - (yv:Int)+10000 by omega]at h;unfold zHu;rw[List.length_set,←hDn];exact h
     have HOy':Hid (zHu (wr.setCell ⟨g,j,none⟩ (I ((dv:Int) - (k:Int) - (yv:Int)+10000))) w1.heap.size (.slice (some ⟨b,0,none⟩) ny cy) ly):=ownsRow_setCell_below hoy (by exact hgb.2) _;have HB':Hid (Bw w (wr.setCell ⟨g,j,none⟩ (I ((dv:Int) - (k:Int) - (yv:Int)+10000)))):=hb.setCell (by exact hgb.1) _;clear hoy hb hDn hoxn
     go_wp2
     go_roundw
     case rel=>exact⟨D.set j (dv+10000 - k - yv),1,j+1,by go_num,by go_num,by omega,by omega,HI',HO',HOy',HB'⟩
     case measure=>simp[intOf];omega
    ·have hn':¬(dv:Int) - (k:Int) - (yv:Int)<0:=by omega
     have HI':Hid (Cub.MinusInv 10000 lx ly (D.set j (dv - k - yv)) 0 (j+1)):=(un HI).step hjD (by omega) (by omega) (by rw[←un HYV,←un HDV];omega)
     have HO':Hid (zHu (wr.setCell ⟨g,j,none⟩ (I ((dv:Int) - (k:Int) - (yv:Int)))) w.heap.size (.slice (some ⟨g,0,none⟩) nx cx) (D.set j (dv - k - yv))):=by
      have h:=(World.ownsRow.stored hoxn j (I (((dv - k - yv:Nat)):Int))).1;rw[zJk]at h;rw[show(((dv - k - yv:Nat)):Int)=(dv:Int) - (k:Int) - (yv:Int) by omega]at h;unfold zHu;rw[List.length_set,←hDn];exact h
     have HOy':Hid (zHu (wr.setCell ⟨g,j,none⟩ (I ((dv:Int) - (k:Int) - (yv:Int)))) w1.heap.size (.slice (some ⟨b,0,none⟩) ny cy) ly):=ownsRow_setCell_below hoy (by exact hgb.2) _;have HB':Hid (Bw w (wr.setCell ⟨g,j,none⟩ (I ((dv:Int) - (k:Int) - (yv:Int))))):=hb.setCell (by exact hgb.1) _;clear hoy hb hDn hoxn
     go_wp2
     go_roundw
     case rel=>exact⟨D.set j (dv - k - yv),0,j+1,by go_num,by go_num,by omega,by omega,HI',HO',HOy',HB'⟩
     case measure=>simp[intOf];omega
   ·have hy0:yv=0:=by rw[hyv,List.getD_eq_getElem?_getD,List.getElem?_eq_none (by have:=un HNY;omega)];rfl
    subst hy0;clear hdv hyv HOy HO HB
    by_cases hneg:dv<k
    ·have hn':(dv:Int) - (k:Int)<0:=by omega
     have HI':Hid (Cub.MinusInv 10000 lx ly (D.set j (dv+10000 - k)) 1 (j+1)):=(un HI).step hjD (by omega) (by omega) (by rw[←un HYV,←un HDV];omega)
     have HO':Hid (zHu (wr.setCell ⟨g,j,none⟩ (I ((dv:Int) - (k:Int)+10000))) w.heap.size (.slice (some ⟨g,0,none⟩) nx cx) (D.set j (dv+10000 - k))):=by
      have h:=(World.ownsRow.stored hoxn j (I (((dv+10000 - k:Nat)):Int))).1;rw[zJk]at h;rw[show(((dv+10000 - k:Nat)):Int)=(dv:Int) - (k:Int)+10000 by omega]at h;unfold zHu;rw[List.length_set,←hDn];exact h
     have HOy':Hid (zHu (wr.setCell ⟨g,j,none⟩ (I ((dv:Int) - (k:Int)+10000))) w1.heap.size (.slice ay ny cy) ly):=ownsRow_setCell_below hoy (by exact hgb.2) _;have HB':Hid (Bw w (wr.setCell ⟨g,j,none⟩ (I ((dv:Int) - (k:Int)+10000)))):=hb.setCell (by exact hgb.1) _;clear hoy hb hDn hoxn
     go_wp2
     go_roundw
     case rel=>exact⟨D.set j (dv+10000 - k),1,j+1,by go_num,by go_num,by omega,by omega,HI',HO',HOy',HB'⟩
     case measure=>simp[intOf];omega
    ·have hn':¬(dv:Int) - (k:Int)<0:=by omega
     have HI':Hid (Cub.MinusInv 10000 lx ly (D.set j (dv - k)) 0 (j+1)):=(un HI).step hjD (by omega) (by omega) (by rw[←un HYV,←un HDV];omega)
     have HO':Hid (zHu (wr.setCell ⟨g,j,none⟩ (I ((dv:Int) - (k:Int)))) w.heap.size (.slice (some ⟨g,0,none⟩) nx cx) (D.set j (dv - k))):=by
      have h:=(World.ownsRow.stored hoxn j (I (((dv - k:Nat)):Int))).1;rw[zJk]at h;rw[show(((dv - k:Nat)):Int)=(dv:Int) - (k:Int) by omega]at h;unfold zHu;rw[List.length_set,←hDn];exact h
     have HOy':Hid (zHu (wr.setCell ⟨g,j,none⟩ (I ((dv:Int) - (k:Int)))) w1.heap.size (.slice ay ny cy) ly):=ownsRow_setCell_below hoy (by exact hgb.2) _;have HB':Hid (Bw w (wr.setCell ⟨g,j,none⟩ (I ((dv:Int) - (k:Int))))):=hb.setCell (by exact hgb.1) _;clear hoy hb hDn hoxn
     go_wp2
     go_roundw
     case rel=>exact⟨D.set j (dv - k),0,j+1,by go_num,by go_num,by omega,by omega,HI',HO',HOy',HB'⟩
     case measure=>simp[intOf];omega
  ·have hje:j=lx.length:=by have:=un HNX;omega
   obtain⟨_,hfin⟩:=(un HI).last hje (by have:=un HNX;have:=un HNY;omega) (by rw[(un HX).2.1,(un HY).2.1];exact un HLE);obtain⟨t1,t2,t3⟩:=Cub.lval_trim 10000 _ D rfl
   have HF:Hid (Cub.lval 10000 (Cub.trimN D)=Cub.dval s.data.toList - Cub.dval t.data.toList∧Cub.normal 10000 (Cub.trimN D)):=by
    refine⟨?_,t2 (un HI).lim⟩;rw[t1,hfin,(un HX).2.1,(un HY).2.1]
   have hTl:(Cub.trimN D).length≤1000000:=by
    obtain⟨q,hq⟩:=t3;have:=congrArg List.length hq;rw[List.length_append]at this;omega
   clear t1 t2 t3 hfin hje hDn
   go_wp2_with (first
    | (go_at_call 244;refine(zHv _ _ D _ (un HO)).mono ?_;rintro e w5 ⟨v5,rfl,ho5,rfl⟩;have HO5:=zAb ho5;clear ho5)
    | (go_at_call 241;refine(zJa _ _ _ _ (un HO5) (un HF).2 hTl).mono ?_;rintro e w6 ⟨rfl,hb6⟩))
   go_ret
   exact⟨by rw[(un HF).1];rfl,bt HB hb6⟩
end Go.Proofs.YtliadckofhblnaaGreatDoor.Tm
namespace Cub
theorem zHw (B:Nat) (l:List Nat) (i:Nat) (h:i≤l.length):lval B l=lval B (l.take i)+B ^ i*lval B (l.drop i):=by
 have e:=lval_append B (l.take i) (l.drop i)
 rw[List.take_append_drop,List.length_take,Nat.min_eq_left h]at e
 exact e
theorem lval_drop (B:Nat) (l:List Nat) (i:Nat) (h:i<l.length):lval B (l.drop i)=l[i]+B*lval B (l.drop (i+1)):=by
 rw[List.drop_eq_getElem_cons h];rfl
theorem limbs_drop4 {B:Nat} {l:List Nat} (h:limbs B l) (i:Nat):limbs B (l.drop i):=fun x hx=>h x (List.mem_of_mem_drop hx)
theorem limbs_take4 {B:Nat} {l:List Nat} (h:limbs B l) (i:Nat):limbs B (l.take i):=fun x hx=>h x (List.mem_of_mem_take hx)
theorem less_at {B:Nat} {x y:List Nat} {i:Nat} (hx:limbs B x) (hi:i<x.length) (hj:i<y.length) (hd:x.drop (i+1)=y.drop (i+1)) (h:x[i]<y[i]):lval B x<lval B y:=by
 rw[zHw B x i (by omega),zHw B y i (by omega),lval_drop B x i hi,lval_drop B y i hj,hd]
 have h1:=lval_lt (limbs_take4 hx i)
 rw[List.length_take,Nat.min_eq_left (by omega)]at h1
 have h2:B ^ i*(x[i]+B*lval B (y.drop (i+1)))+B ^ i≤B ^ i*(y[i]+B*lval B (y.drop (i+1))):=by
  rw[←Nat.mul_succ];exact Nat.mul_le_mul_left _ (by omega)
 omega
theorem drop_same {x y:List Nat} {i:Nat} (hi:i<x.length) (hj:i<y.length) (hd:x.drop (i+1)=y.drop (i+1)) (h:x[i]=y[i]):x.drop i=y.drop i:=by
 rw[List.drop_eq_getElem_cons hi,List.drop_eq_getElem_cons hj,hd,h]
theorem less_len {B:Nat} {x y:List Nat} (hB:1<B) (hx:limbs B x) (hy:normal B y) (h:x.length<y.length):lval B x<lval B y:=by
 have h1:=lval_lt hx
 have h2:=normal_ge hy (by intro e;rw[e]at h;simp at h)
 have h3:B ^ x.length≤B ^ (y.length - 1):=Nat.pow_le_pow_right (by omega) (by omega)
 omega
structure RefTakeInv (X Y D:List Nat) (up q c k:Nat):Prop where
 len:D.length=X.length
 lim:limbs 10000 D
 low:D.take up=X.take up
 rest:D.drop (up+k)=X.drop (up+k)
 eq:lval 10000 ((D.drop up).take k)+q*lval 10000 (Y.take k)=lval 10000 ((X.drop up).take k)+c*10000 ^ k
 owed:c≤9999
theorem RefTakeInv.start {X:List Nat} (Y:List Nat) (up q:Nat) (hX:limbs 10000 X):RefTakeInv X Y X up q 0 0 :=
 ⟨rfl,hX,rfl,rfl,by simp[lval],by omega⟩
theorem take_next (l:List Nat) (up k:Nat) (h:up+k<l.length):lval 10000 ((l.drop up).take (k+1))=lval 10000 ((l.drop up).take k)+10000 ^ k*l[up+k]:=by
 have hk:k<(l.drop up).length:=by rw[List.length_drop];omega
 rw[List.take_succ_eq_append_getElem hk,lval_snoc,List.length_take,Nat.min_eq_left (Nat.le_of_lt hk),List.getElem_drop]
theorem take_getD4 (l:List Nat) (i:Nat):lval 10000 (l.take (i+1))=lval 10000 (l.take i)+10000 ^ i*l.getD i 0:=by
 by_cases h:i<l.length
 ·rw[List.take_succ_eq_append_getElem h,lval_snoc,List.length_take,Nat.min_eq_left (by omega)];simp[List.getD,h]
 ·rw[List.take_of_length_le (by omega),List.take_of_length_le (by omega)];simp[List.getD,List.getElem?_eq_none (Nat.le_of_not_lt h)]
theorem RefTakeInv.step {X Y D:List Nat} {up q c k d c':Nat} (h:RefTakeInv X Y D up q c k) (hk:up+k<D.length) (hd:d<10000) (hc:c'≤9999)
  (he:D[up+k]+c'*10000=d+c+q*Y.getD k 0):RefTakeInv X Y (D.set (up+k) d) up q c' (k+1):=by
 have hl:=h.len
 have hkX:up+k<X.length:=by omega
 have hDX:D[up+k]=X[up+k]:=by
  have:=h.rest
  rw[List.drop_eq_getElem_cons hk,List.drop_eq_getElem_cons hkX]at this
  exact(List.cons.inj this).1
 refine⟨by rw[List.length_set];exact hl,limbs_set h.lim _ _ hd,?_,?_,?_,hc⟩
 ·rw[List.take_set_of_le (by omega)];exact h.low
 ·rw[List.drop_set_of_lt (by omega),←Nat.add_assoc]
  have:=h.rest
  rw[List.drop_eq_getElem_cons hk,List.drop_eq_getElem_cons hkX]at this
  exact(List.cons.inj this).2
 ·have e1:lval 10000 (((D.set (up+k) d).drop up).take (k+1))=lval 10000 ((D.drop up).take k)+10000 ^ k*d:=by
   rw[take_next _ up k (by rw[List.length_set];exact hk),List.getElem_set_self]
   congr 2
   rw[List.drop_set]
   split
   ·omega
   ·rw[List.take_set_of_le (by omega)]
  rw[e1,take_getD4,take_next X up k hkX]
  have e:=h.eq
  rw[hDX]at he
  generalize X[up+k]=xv at *
  generalize Y.getD k 0=yv at *
  generalize lval 10000 ((D.drop up).take k)=a at *
  generalize lval 10000 (Y.take k)=b at *
  generalize lval 10000 ((X.drop up).take k)=x at *
  rw[Nat.pow_succ]
  generalize (10000:Nat) ^ k=p at *
  have h1:p*(xv+c'*10000)=p*(d+c+q*yv):=by rw[he]
  have h2:p*(xv+c'*10000)=p*xv+c'*(p*10000):=by grind
  have h3:p*(d+c+q*yv)=p*d+c*p+q*(p*yv):=by grind
  rw[h2,h3]at h1
  rw[Nat.mul_add]
  omega
theorem RefTakeInv.done {X Y D:List Nat} {up q k:Nat} (h:RefTakeInv X Y D up q 0 k) (hk:Y.length≤k) (hup:up+k≤X.length):lval 10000 (D.drop up)+q*lval 10000 Y=lval 10000 (X.drop up):=by
 have e:=h.eq
 rw[List.take_of_length_le hk,Nat.zero_mul,Nat.add_zero]at e
 have hl:=h.len
 rw[zHw 10000 (D.drop up) k (by rw[List.length_drop];omega),zHw 10000 (X.drop up) k (by rw[List.length_drop];omega),List.drop_drop,List.drop_drop,h.rest]
 omega
theorem RefTakeInv.owes {X Y D:List Nat} {up q c k:Nat} (h:RefTakeInv X Y D up q c k) (hk:Y.length≤k) (hup:up+k=X.length) (hle:q*lval 10000 Y≤lval 10000 (X.drop up)):c=0:=by
 have e:=h.eq
 have hl:=h.len
 rw[List.take_of_length_le hk,List.take_of_length_le (by rw[List.length_drop];omega),List.take_of_length_le (by rw[List.length_drop];omega)]at e
 have h1:=lval_lt (limbs_drop4 h.lim up)
 rw[List.length_drop,hl,show X.length - up=k by omega]at h1
 rcases Nat.eq_zero_or_pos c with hc|hc
 ·exact hc
 ·have:10000 ^ k≤c*10000 ^ k:=Nat.le_mul_of_pos_left _ hc
  omega
structure DivInv (A V:Nat) (X Q:List Nat) (n up:Nat):Prop where
 lenX:X.length=n
 lenQ:Q.length=n
 limX:limbs 10000 X
 limQ:limbs 10000 Q
 zero:∀i (h:i<Q.length),i<up→Q[i]=0
 sum:lval 10000 X+V*lval 10000 Q=A
 rest:lval 10000 (X.drop up)<V
theorem DivInv.start {A V:Nat} {X:List Nat} {up:Nat} (hX:limbs 10000 X) (hA:lval 10000 X=A) (hr:lval 10000 (X.drop up)<V):DivInv A V X (List.replicate X.length 0) X.length up :=
 ⟨rfl,by simp,hX,limbs_zeros _ _ (by decide),fun i h _=>by simp,by rw[lval_zeros,Nat.mul_zero,Nat.add_zero];exact hA,hr⟩
theorem DivInv.quo {A V:Nat} {X Q:List Nat} {n up:Nat} (h:DivInv A V X Q n (up+1)) (hup:up<n):lval 10000 (X.drop up) / V≤9999:=by
 have h1:up<X.length:=by rw[h.lenX];exact hup
 rw[lval_drop 10000 X up h1]
 have h2:X[up]<10000:=h.limX _ (List.getElem_mem h1)
 have h3:=h.rest
 have h4:X[up]+10000*lval 10000 (X.drop (up+1))<10000*V:=by omega
 have:=(Nat.div_lt_iff_lt_mul (by omega:0<V)).2 h4
 omega
theorem DivInv.step {A V:Nat} {X Q D:List Nat} {n up q:Nat} (h:DivInv A V X Q n (up+1)) (hup:up<n) (hq:q=lval 10000 (X.drop up) / V)
  (hl:D.length=X.length) (hD:limbs 10000 D) (hlow:D.take up=X.take up) (hs:lval 10000 (D.drop up)+q*V=lval 10000 (X.drop up)):DivInv A V D (Q.set up q) n up:=by
 have hV:0<V:=by have:=h.rest;omega
 have h1:up<X.length:=by rw[h.lenX];exact hup
 have h2:up<Q.length:=by rw[h.lenQ];exact hup
 have h9:=h.quo hup
 refine⟨hl.trans h.lenX,by rw[List.length_set];exact h.lenQ,hD,limbs_set h.limQ _ _ (by omega),?_,?_,?_⟩
 ·intro i hi hlt
  rw[List.getElem_set_ne (by omega)]
  exact h.zero i (by rw[List.length_set]at hi;exact hi) (by omega)
 ·have e1:=lval_set 10000 Q up q h2
  rw[h.zero up h2 (by omega),Nat.mul_zero,Nat.add_zero]at e1
  have e2:=h.sum
  rw[zHw 10000 X up (by omega)]at e2
  rw[zHw 10000 D up (by omega),hlow,e1]
  have e3:10000 ^ up*lval 10000 (X.drop up)=10000 ^ up*lval 10000 (D.drop up)+V*(10000 ^ up*q):=by rw[←hs];grind
  rw[Nat.mul_add]
  omega
 ·have:=Nat.div_add_mod (lval 10000 (X.drop up)) V
  have hm:=Nat.mod_lt (lval 10000 (X.drop up)) hV
  rw[←hq,Nat.mul_comm V q]at this
  omega
theorem DivInv.done {A V:Nat} {X Q:List Nat} {n:Nat} (h:DivInv A V X Q n 0):lval 10000 Q=A / V∧lval 10000 X=A % V:=by
 have h1:=h.sum
 have h2:=h.rest
 rw[List.drop_zero]at h2
 have hV:0<V:=by omega
 have e:=(Nat.div_mod_unique hV (a:=A) (d:=lval 10000 Q) (c:=lval 10000 X)).2 ⟨h1,h2⟩
 exact⟨e.1.symm,e.2.symm⟩
end Cub
namespace Go.Proofs.YtliadckofhblnaaGreatDoor.Tm
open Go.RowKit
theorem i64s_made (n:Nat):(madeCells (I 0).cells (n*1)).toList=zJe (List.replicate n 0):=by
  rw[show(I 0).cells=#[I 0]from rfl,toList_madeCells_one];simp[zJe]
structure OutI (w wr:World) (g N:Nat) (O:List Nat):Prop where
  own:wr.ownsRow w.heap.size 3 1 (.slice (some ⟨g,0,none⟩) N N) N (zJe O)
  len:O.length=N
  low:w.heap.size≤g
  below:Below w.heap.size w wr
theorem OutI.cell {w wr:World} {g N:Nat} {O:List Nat} (h:OutI w wr g N O) (p:Nat) (hp:p<O.length):wr.cell? ⟨g,p,none⟩=some (I (O[p]:Int)):=by
  rw[h.own.cellAt p (by have:=h.len;omega),i64s_get O p hp]
theorem OutI.frozen {w wr:World} {g N:Nat} {O:List Nat} (h:OutI w wr g N O) (p:Nat):wr.frozen? ⟨g,p,none⟩=false:=h.own.frozenAt p
theorem OutI.set {w wr:World} {g N:Nat} {O:List Nat} (h:OutI w wr g N O) (p x:Nat) (z:Int) (hz:z=(x:Int)):OutI w (wr.setCell ⟨g,p,none⟩ (I z)) g N (O.set p x):=by
  subst hz;refine⟨?_,by rw[List.length_set];exact h.len,h.low,h.below.setCell (by exact h.low) _⟩;have:=(World.ownsRow.stored h.own p (I (x:Int))).1;rw[zJk]at this;exact this
theorem OutI.drew {w wr:World} {g N:Nat} {O:List Nat} (h:OutI w wr g N O) (k:Nat):OutI w (wr.drewN k) g N O:=⟨h.own,h.len,h.low,below_drewN h.below k⟩
theorem refTimes_any (vx vy:Value) (bx by':Nat) (lx ly:List Nat) (w:World) (hox:zHu w bx vx lx) (hoy:zHu w by' vy ly) (hlx:Cub.limbs 10000 lx) (hly:Cub.limbs 10000 ly) (hnx:lx.length≤1000000) (hny:ly.length≤1000000) :
    Calls Tryz.prog 242 #[vx,vy] w fun e w'=>∃v l,e=.returned v∧zHu w' w.heap.size v l∧Cub.normal 10000 l∧Cub.lval 10000 l=Cub.lval 10000 lx*Cub.lval 10000 ly∧l.length≤lx.length+ly.length∧Bw w w':=by
  obtain⟨ax,cx,rfl,_,_,hcx⟩:=hox.open;obtain⟨ay,cy,rfl,_,_,hcy⟩:=hoy.open;have HX:=zAb (And.intro hlx hcx);have HY:=zAb (And.intro hly hcy);obtain⟨nx,hnx'⟩:∃nx,nx=lx.length:=⟨_,rfl⟩;obtain⟨ny,hny'⟩:∃ny,ny=ly.length:=⟨_,rfl⟩;rw[←hnx']at hnx ⊢;rw[←hny']at hny ⊢;have HNX:=zAb hnx';have HNY:=zAb hny';clear hox hoy hlx hly hcx hcy hnx' hny';obtain⟨i0,hi,hz0,hz1,hz2⟩:=info_parts Tryz.info3;go_enter Tryz.func242,Tryz.ntmps242
  go_wp2_with (at_make;refine wpList_make_full _ rfl _ _ 255 rfl w.heap.size 3 i0 (I 0) 1 Tryz.underlying255 hi hz0 hz1 .i64 .i64 _ _ (nx+ny) rfl rfl (by omega) (by omega) (by rw[hz2];omega) (by unfold maxLen;omega) (Nat.le_refl _) ?_;intro w3 hown3 hgrow3)
  have hO3:OutI w w3 w.heap.size (nx+ny) (List.replicate (nx+ny) 0):=by
    refine⟨?_,List.length_replicate ..,Nat.le_refl _,(Below.refl _ _).grown hgrow3 (Nat.le_refl _) (fun k hk=>by cases hk)⟩;rw[i64s_made]at hown3;exact hown3
  have HO3:=zAb hO3;clear hown3 hgrow3 hO3;generalize hg:w.heap.size=g at *
  have HG:=zAb hg;clear hg
  go_loopw [6] (fun t wr=>∃(i:Nat) (O:List Nat),t=I (i:Int)∧i≤nx∧Hid (OutI w wr g (nx+ny) O)∧Hid (Cub.limbs 10000 O∧Cub.lval 10000 O=Cub.lval 10000 (lx.take i)*Cub.lval 10000 ly)) (fun t _=>nx - (intOf t).toNat)
  case atStart=>exact⟨0,_,rfl,by omega,HO3,⟨Cub.limbs_zeros _ _ (by decide),by rw[Cub.lval_zeros];simp[Cub.lval]⟩⟩
  case round=>
    obtain⟨i,O,rfl,hi',HO,HV⟩:=hrel
    by_cases hin:i<nx
    · have hil:i<lx.length:=by have:=un HNX;omega
      obtain⟨xv,hxv⟩:∃xv,xv=lx[i]:=⟨_,rfl⟩;have hxB:xv<10000:=by rw[hxv];exact(un HX).1 _ (List.getElem_mem hil)
      have HXV:Hid (lx.getD i 0=xv):=by rw[hxv,List.getD_eq_getElem?_getD,List.getElem?_eq_getElem hil];exact rfl
      obtain⟨bx',rfl,_⟩:=(un HX).2 w (Below.refl _ _) i hil
      have HXC:Hid (∀W,Below w.heap.size w W→W.cell? ⟨bx',i,none⟩=some (I (xv:Int))):=fun W hW=>by
        obtain⟨b,e,hc⟩:=(un HX).2 W hW i hil;simp only[Option.some.injEq,Addr.mk.injEq,and_true]at e;subst e;rw[hxv];exact hc
      have HA0:Hid (Cub.Acc 10000 O 0 (i+0) (Cub.lval 10000 (lx.take i)*Cub.lval 10000 ly+10000 ^ i*(xv*Cub.lval 10000 (ly.take 0)))):=by
        refine⟨(un HV).1,?_⟩;rw[(un HV).2];simp[Cub.lval]
      generalize hV0:Cub.lval 10000 (lx.take i)*Cub.lval 10000 ly=V0 at *
      have HV0:=zAb hV0;clear hxv hV0
      go_wp2
      go_loopw [7,8] (fun c t wq=>∃(k j:Nat) (P:List Nat),c=I (k:Int)∧t=I (j:Int)∧j≤ny∧k<10000∧Hid (OutI w wq g (nx+ny) P)∧Hid (Cub.Acc 10000 P k (i+j) (V0+10000 ^ i*(xv*Cub.lval 10000 (ly.take j))))) (fun _ t _=>ny - (intOf t).toNat)
      case atStart=>exact⟨0,0,O,rfl,rfl,by omega,by omega,HO,HA0⟩
      case round=>
        obtain⟨k,j,P,rfl,rfl,hj,hk,HP,HA⟩:=hrel
        by_cases hjn:j<ny
        · have hpl:i+j<P.length:=by rw[(un HP).len];omega
          have hjl:j<ly.length:=by have:=un HNY;omega
          obtain⟨ov,hov⟩:∃ov,ov=P[i+j]:=⟨_,rfl⟩;have hoB:ov<10000:=by rw[hov];exact(un HA).lim _ (List.getElem_mem hpl)
          have hco:=(un HP).cell (i+j) hpl;rw[←hov]at hco;have hfo:=(un HP).frozen (i+j);have hcx:=un HXC wr (un HP).below;obtain⟨yv,hyv⟩:∃yv,yv=ly[j]:=⟨_,rfl⟩;have hyB:yv<10000:=by rw[hyv];exact(un HY).1 _ (List.getElem_mem hjl)
          obtain⟨by2,rfl,hcy⟩:=(un HY).2 wr (un HP).below j hjl;rw[←hyv]at hcy;have HYV:Hid (ly.getD j 0=yv):=by rw[hyv,List.getD_eq_getElem?_getD,List.getElem?_eq_getElem hjl];exact rfl
          have hin':(i:Int)<(nx:Int):=by omega
          have hjn':(j:Int)<(ny:Int):=by omega
          obtain⟨m,hm⟩:∃m,m=xv*yv:=⟨_,rfl⟩;have hmB:m≤99980001:=by rw[hm];exact Nat.mul_le_mul (show xv≤9999 by omega) (show yv≤9999 by omega)
          have hmul:(xv:Int)*(yv:Int)=(m:Int):=by rw[hm];simp
          have HA':Hid (Cub.Acc 10000 (P.set (i+j) ((k+ov+m) % 10000)) ((k+ov+m) / 10000) (i+(j+1)) (V0+10000 ^ i*(xv*Cub.lval 10000 (ly.take (j+1))))):=by
            have h:=(un HA).step (by decide) hpl (xv*ly.getD j 0);rw[Cub.val_inner,un HYV,←hm,←hov]at h;exact h
          have hk':(k+ov+m) / 10000<10000:=by rw[hm];exact Cub.carry_lt 10000 k ov xv yv hk hoB hxB hyB
          clear hov hyv hjl hm hpl
          go_wp2
          go_quiet (fail)
          go_wp2
          go_roundw
          case rel=>exact⟨(k+ov+m) / 10000,j+1,P.set (i+j) ((k+ov+m) % 10000),by go_num,by go_num,by omega,hk',((un HP).set (i+j) ((k+ov+m) % 10000) _ (by omega)).drew _,HA'⟩
          case measure=>simp[intOf];omega
        · have hje:j=ny:=by omega
          subst hje
          have HA1:Hid (Cub.Acc 10000 P k (i+j) (Cub.lval 10000 (lx.take (i+1))*Cub.lval 10000 ly)):=by
            have h:=un HA;rw[List.take_of_length_le (by have:=un HNY;omega),←un HV0,←un HXV,Cub.val_outer]at h;exact h
          have HVB:Hid (Cub.lval 10000 (lx.take (i+1))*Cub.lval 10000 ly<10000 ^ (nx+j)):=by
            rcases Cub.mul_lt 10000 lx ly (un HX).1 (un HY).1 (i+1)with h|h
            · refine Nat.lt_of_lt_of_le h (Nat.pow_le_pow_right (by decide) ?_)
              have:=un HNY;omega
            · omega
          generalize hV1:Cub.lval 10000 (lx.take (i+1))*Cub.lval 10000 ly=V1 at *
          have HV1:=zAb hV1;clear HA hV1
          go_wp2
          go_loopw [7,9] (fun c t wq=>∃(k p:Nat) (P:List Nat),c=I (k:Int)∧t=I (p:Int)∧p≤nx+j∧k<10000∧Hid (OutI w wq g (nx+j) P)∧Hid (Cub.Acc 10000 P k p V1)) (fun _ t _=>nx+j - (intOf t).toNat)
          case atStart=>exact⟨k,i+j,P,rfl,by go_num,by omega,hk,HP,HA1⟩
          case round=>
            clear HP HA1 hk;obtain⟨k,p,P,rfl,rfl,hp,hk,HP,HA⟩:=hrel
            by_cases hk0:k=0
            · subst hk0
              have HVn:Hid (Cub.limbs 10000 P∧Cub.lval 10000 P=Cub.lval 10000 (lx.take (i+1))*Cub.lval 10000 ly):=⟨(un HA).lim,by rw[un HV1];have:=(un HA).val;simpa using this⟩
              go_wp2
              go_roundw
              case rel=>exact⟨i+1,P,by go_num,by omega,HP,HVn⟩
              case measure=>simp[intOf];omega
            · have hpn:p<nx+j:=by
                rcases Nat.lt_or_ge p (nx+j)with h|h
                · exact h
                · exfalso
                  have e:p=nx+j:=by omega
                  have h2:=un HA;rw[e]at h2;exact hk0 (h2.none (un HVB))
              have hpl:p<P.length:=by rw[(un HP).len];omega
              obtain⟨ov,hov⟩:∃ov,ov=P[p]:=⟨_,rfl⟩;have hoB:ov<10000:=by rw[hov];exact(un HA).lim _ (List.getElem_mem hpl)
              have hco:=(un HP).cell p hpl;rw[←hov]at hco;have hfo:=(un HP).frozen p
              have HA':Hid (Cub.Acc 10000 (P.set p ((k+ov) % 10000)) ((k+ov) / 10000) (p+1) V1):=by
                have h:=(un HA).step (by decide) hpl 0;rw[←hov,Nat.add_zero,Nat.mul_zero,Nat.add_zero]at h;exact h
              have hk':(k+ov) / 10000<10000:=Cub.carry_lt' 10000 k ov hk hoB (by decide);have HP':Hid (OutI w (wr.setCell ⟨g,p,none⟩ (I (((k:Int)+(ov:Int)) % 10000))) g (nx+j) (P.set p ((k+ov) % 10000))):=(un HP).set p ((k+ov) % 10000) _ (by omega);clear hov hpl
              go_wp2
              go_roundw
              case rel=>exact⟨(k+ov) / 10000,p+1,P.set p ((k+ov) % 10000),by go_num,by go_num,by omega,hk',HP',HA'⟩
              case measure=>simp[intOf];omega
    · obtain⟨t1,t2,t3⟩:=Cub.lval_trim 10000 _ O rfl
      have HF:Hid (Cub.normal 10000 (Cub.trimN O)∧Cub.lval 10000 (Cub.trimN O)=Cub.lval 10000 lx*Cub.lval 10000 ly∧(Cub.trimN O).length≤nx+ny):=by
        refine⟨t2 (un HV).1,?_,?_⟩
        · rw[t1,(un HV).2,List.take_of_length_le (by have:=un HNX;omega)]
        · obtain⟨q,hq⟩:=t3
          have:=congrArg List.length hq;rw[List.length_append,(un HO).len]at this;omega
      have HOw:Hid (zHu wr w.heap.size (.slice (some ⟨g,0,none⟩) (nx+ny) (nx+ny)) O):=by
        have h:=(un HO).own;unfold zHu Hid;rw[(un HO).len];exact h
      clear t1 t2 t3
      go_wp2_with (go_at_call 244;refine(zHv _ _ O _ (un HOw)).mono ?_;rintro e w5 ⟨v5,rfl,ho5,rfl⟩)
      go_ret
      exact⟨v5,_,rfl,ho5,(un HF).1,(un HF).2.1,(un HF).2.2,(un HO).below⟩
def RowI (w:World) (v:Value) (l:List Nat):Prop :=
  ∃a cap,v=.slice a l.length cap∧l.length≤cap∧cap≤9223372036854775807∧(l≠[]→∃b o,a=some ⟨b,o,none⟩∧b<w.heap.size∧∀i (h:i<l.length),w.cell? ⟨b,o+i,none⟩=some (I (l[i]:Int)))
theorem RowI.later {w w':World} {v:Value} {l:List Nat} (h:RowI w v l) (hb:Below w.heap.size w w'):RowI w' v l:=by
  obtain⟨a,cap,rfl,hc,hm,hr⟩:=h;refine⟨a,cap,rfl,hc,hm,fun hne=>?_⟩;obtain⟨b,o,rfl,hlt,hcell⟩:=hr hne;have:=hb.size;exact⟨b,o,rfl,by omega,fun i hi=>(hb.cell (p:=⟨b,o+i,none⟩) hlt).trans (hcell i hi)⟩
theorem RowI.of_own {w:World} {base:Nat} {v:Value} {l:List Nat} (h:zHu w base v l):RowI w v l:=by
  obtain⟨a,cap,rfl,hc,hm,hcells⟩:=h.open;refine⟨a,cap,rfl,hc,hm,fun hne=>?_⟩;have h0:0<l.length:=List.length_pos_iff.2 hne;obtain⟨b,rfl,hc0⟩:=hcells w (Below.refl _ _) 0 h0;refine⟨b,0,rfl,World.block_lt_of_cell? _ _ hc0,fun i hi=>?_⟩;obtain⟨b',e,hc1⟩:=hcells w (Below.refl _ _) i hi;simp only[Option.some.injEq,Addr.mk.injEq]at e;obtain⟨rfl,_⟩:=e;rw[Nat.zero_add];exact hc1
theorem RowI.drop {w:World} {b n cap:Nat} {l:List Nat} (h:RowI w (.slice (some ⟨b,0,none⟩) n cap) l) (up:Nat) (hu:up<n):RowI w (.slice (some ⟨b,up,none⟩) (n - up) (cap - up)) (l.drop up):=by
  obtain⟨a,cap',e,hc,hm,hr⟩:=h;simp only[Value.slice.injEq]at e;obtain⟨rfl,rfl,rfl⟩:=e;have hl:(l.drop up).length=l.length - up:=List.length_drop ..;refine⟨_,_,by rw[hl],by rw[hl];omega,by omega,fun _=>?_⟩;obtain⟨b',o,e,hlt,hcell⟩:=hr (fun e=>by rw[e]at hu;simp at hu);simp only[Option.some.injEq,Addr.mk.injEq]at e;obtain⟨rfl,rfl,_⟩:=e;refine⟨b,up,rfl,hlt,fun i hi=>?_⟩;rw[List.getElem_drop];have:=hcell (up+i) (by rw[hl]at hi;omega);rw[Nat.zero_add]at this;exact this
theorem RowI.take {w:World} {a:Option Addr} {n cap:Nat} {l:List Nat} (h:RowI w (.slice a n cap) l) (k:Nat) (hk:k≤n):RowI w (.slice a k cap) (l.take k):=by
  obtain⟨a',cap',e,hc,hm,hr⟩:=h;simp only[Value.slice.injEq]at e;obtain⟨rfl,rfl,rfl⟩:=e;have hl:(l.take k).length=k:=by rw[List.length_take];omega
  refine⟨a,cap,by rw[hl],by omega,hm,fun hne=>?_⟩;obtain⟨b,o,rfl,hlt,hcell⟩:=hr (fun e=>hne (by rw[e];simp));refine⟨b,o,rfl,hlt,fun i hi=>?_⟩;rw[List.getElem_take];exact hcell i (by omega)
theorem refTrimRow_any (v:Value) (l:List Nat) (w:World) (h:RowI w v l) :
    Calls Tryz.prog 244 #[v] w fun e w'=>∃v',e=.returned v'∧RowI w v' (Cub.trimN l)∧w'=w:=by
  have H:=zAb h;obtain⟨a,cap,rfl,hc,hm,hr⟩:=h;have HR:=zAb hr;clear hr;obtain⟨n,hn⟩:∃n,n=l.length:=⟨_,rfl⟩;rw[←hn]at H hc ⊢;have HN:=zAb hn;clear hn;go_enter Tryz.func244,Tryz.ntmps244
  go_wp2
  go_loop [0] (fun t=>∃k:Nat,k≤n∧t=.slice a k cap∧Hid (Cub.trimN (l.take k)=Cub.trimN l)) (fun t=>lenOf t)
  case atStart=>exact⟨n,Nat.le_refl _,rfl,by rw[List.take_of_length_le (by have:=un HN;omega)];exact rfl⟩
  case round=>
    obtain⟨k,hk,rfl,ht⟩:=hrel;have HT:=ht;clear ht
    by_cases hk0:k=0
    · subst hk0
      have E:Hid (Cub.trimN l=l.take 0):=by rw[←un HT];exact rfl
      go_wp2
      go_ret
      exact⟨_,rfl,by rw[un E];exact(un H).take 0 (Nat.zero_le _),rfl⟩
    · obtain⟨j,rfl⟩:∃j,k=j+1:=⟨k - 1,by omega⟩
      have hlt:j<l.length:=by have:=un HN;omega
      obtain⟨b,o,rfl,_,hcell⟩:=un HR (fun e=>by rw[e]at hlt;simp at hlt);have hx:=hcell j hlt;clear hcell
      by_cases hz:l[j]=0
      · rw[hz]at hx
        have E:Hid (Cub.trimN (l.take j)=Cub.trimN l):=by
          rw[←un HT,List.take_succ_eq_append_getElem hlt,hz,Cub.trimN_snoc_zero];exact rfl
        clear hz
        go_wp2
        go_round
        case rel=>exact⟨j,by omega,by first|rfl|go_num,E⟩
        case measure=>simp[lenOf]
      · have E:Hid (Cub.trimN l=l.take (j+1)):=by
          rw[←un HT,List.take_succ_eq_append_getElem hlt,Cub.trimN_snoc _ _ hz];exact rfl
        have hz':((l[j]:Int) == 0)=false:=by rw[beq_eq_false_iff_ne];omega
        clear hz
        go_wp2
        go_ret
        exact⟨_,rfl,by rw[un E];exact(un H).take (j+1) hk,rfl⟩
theorem refLess_any (vx vy:Value) (x y:List Nat) (w:World) (hx:RowI w vx x) (hy:RowI w vy y) (hnx:Cub.normal 10000 x) (hny:Cub.normal 10000 y) :
    Calls Tryz.prog 276 #[vx,vy] w fun e w'=>e=.returned (.bool (decide (Cub.lval 10000 x<Cub.lval 10000 y)))∧Bw w w':=by
  obtain⟨ax,cx,rfl,hcx,hmx,hrx⟩:=hx;obtain⟨ay,cy,rfl,hcy,hmy,hry⟩:=hy
  by_cases hlen:x.length=y.length
  · have HRX:=zAb hrx
    have HRY:=zAb hry;have HB:Hid (Cub.limbs 10000 x∧Cub.limbs 10000 y):=⟨hnx.1,hny.1⟩;have HL:=zAb hlen;obtain⟨n,hn⟩:∃n,n=x.length:=⟨_,rfl⟩;rw[←hlen]at hcy ⊢;rw[←hn]at hcx hcy ⊢;have HN:=zAb hn;clear hrx hry hnx hny hlen hn;go_enter Tryz.func276,Tryz.ntmps276
    go_wp2
    go_loopw [5] (fun t wr=>∃k:Nat,k≤n∧t=I ((k:Int) - 1)∧Hid (x.drop k=y.drop k)∧Hid (Bw w wr)) (fun t _=>(intOf t+1).toNat)
    case atStart=>exact⟨n,Nat.le_refl _,rfl,by rw[List.drop_of_length_le (by have:=un HN;omega),List.drop_of_length_le (by have:=un HN;have:=un HL;omega)];exact rfl,Below.refl _ _⟩
    case round=>
      obtain⟨k,hk,rfl,HD,HW⟩:=hrel
      by_cases h0:k=0
      · subst h0
        have HV:Hid (decide (Cub.lval 10000 x<Cub.lval 10000 y)=false):=by
          have:=un HD;rw[List.drop_zero,List.drop_zero]at this;show _=_;rw[this];simp
        go_wp2
        go_ret
        exact⟨by rw[un HV];rfl,un HW⟩
      · obtain⟨j,rfl⟩:∃j,k=j+1:=⟨k - 1,by omega⟩
        have hjx:j<x.length:=by have:=un HN;omega
        have hjy:j<y.length:=by have:=un HL;omega
        obtain⟨bx,ox,rfl,hbx,hcellx⟩:=un HRX (fun e=>by rw[e]at hjx;simp at hjx);obtain⟨by',oy,rfl,hby,hcelly⟩:=un HRY (fun e=>by rw[e]at hjy;simp at hjy);obtain⟨xv,hxv⟩:∃xv,xv=x[j]:=⟨_,rfl⟩;obtain⟨yv,hyv⟩:∃yv,yv=y[j]:=⟨_,rfl⟩;have c1:wr.cell? ⟨bx,ox+j,none⟩=some (I (xv:Int)):=by rw[(un HW).cell (p:=⟨bx,ox+j,none⟩) hbx,hcellx j hjx,hxv]
        have c2:wr.cell? ⟨by',oy+j,none⟩=some (I (yv:Int)):=by rw[(un HW).cell (p:=⟨by',oy+j,none⟩) hby,hcelly j hjy,hyv]
        have hjn:(j:Int)<(n:Int):=by omega
        have HLT:Hid (xv<yv→Cub.lval 10000 x<Cub.lval 10000 y):=fun h=>Cub.less_at (un HB).1 hjx hjy (un HD) (by rw[←hxv,←hyv];exact h)
        have HGT:Hid (yv<xv→Cub.lval 10000 y<Cub.lval 10000 x):=fun h=>Cub.less_at (un HB).2 hjy hjx (un HD).symm (by rw[←hxv,←hyv];exact h)
        have HEQ:Hid (xv=yv→x.drop j=y.drop j):=fun h=>Cub.drop_same hjx hjy (un HD) (by rw[←hxv,←hyv];exact h)
        have ej:((j+1:Nat):Int) - 1=(j:Int):=by omega
        rw[ej];clear hcellx hcelly hxv hyv hjx hjy HD ej h0
        by_cases he:xv=yv
        · have HE':=zAb (un HEQ he)
          subst he;have e:((xv:Int) != (xv:Int))=false:=by simp
          clear HLT HGT HEQ
          go_upto_region 6 with fail
          go_quiet (fail)
          go_wp2_with fail
          go_roundw
          case rel=>exact⟨j,by omega,by go_num,HE',below_drewN (un HW) _⟩
          case measure=>simp[intOf]
        · have e:((xv:Int) != (yv:Int))=true:=by rw[bne_iff_ne];omega
          have HV:Hid (decide (Cub.lval 10000 x<Cub.lval 10000 y)=decide (xv<yv)):=by
            show _=_;rcases Nat.lt_or_ge xv yv with h|h
            · rw[decide_eq_true (un HLT h),decide_eq_true (by omega)]
            · have:=un HGT (by omega)
              rw[decide_eq_false (by omega),decide_eq_false (by omega)]
          clear HLT HGT HEQ he
          go_upto_region 6 with fail
          go_quiet (fail)
          go_upto_region 7 with fail
          go_quiet (fail)
          go_wp2_with fail
          go_ret
          exact⟨by rw[un HV];rfl,below_drewN (below_drewN (un HW) _) _⟩
  · have HV:Hid (decide (Cub.lval 10000 x<Cub.lval 10000 y)=decide (x.length<y.length)):=by
      show _=_;rcases Nat.lt_or_ge x.length y.length with h|h
      · rw[decide_eq_true (Cub.less_len (by decide) hnx.1 hny h),decide_eq_true (by omega)]
      · have:=Cub.less_len (by decide) hny.1 hnx (by omega:y.length<x.length)
        rw[decide_eq_false (by omega),decide_eq_false (by omega)]
    have e:((x.length:Int) != (y.length:Int))=true:=by rw[bne_iff_ne];omega
    rw[un HV];clear hlen HV hrx hry hnx hny;generalize x.length=nx at *
    generalize y.length=ny at *
    go_enter Tryz.func276,Tryz.ntmps276
    go_wp2
    go_ret
    exact⟨rfl,Below.refl _ _⟩
end Go.Proofs.YtliadckofhblnaaGreatDoor.Tm

/- The document's constants: All (25); its Find (27). -/
import Derived.Test.YtliadckofhblnaaGreatDoorNt12
import Derived.Maps.OwnSet
import Derived.Laws.EntriesVeiled
import Derived.Maps.RangeWalk
import Derived.Test.YtliadckofhblnaaGreatDoorLimb3
import Derived.Great.BuildSlice
namespace Go.Proofs.YtliadckofhblnaaGreatDoor.Nt
open Go.RowKit Go.Maps Go.ChangeMaps Go.WideMaps
def fNm:Nat→ByteArray
  | 0=>⟨#[97,118,111,103,97,100,114,111]⟩
  | 1=>⟨#[98,111,108,116,122,109,97,110,110]⟩
  | 2=>⟨#[103,97,115]⟩
  | 3=>⟨#[99,104,97,114,103,101]⟩
  | 4=>⟨#[102,97,114,97,100,97,121]⟩
  | 5=>⟨#[101,108,101,99,116,114,111,110]⟩
  | 6=>⟨#[103,114,97,118,105,116,97,116,105,111,110]⟩
  | 7=>⟨#[103,114,97,118,105,116,121]⟩
  | 8=>⟨#[108,105,103,104,116]⟩
  | 9=>⟨#[112,108,97,110,99,107]⟩
  | 10=>⟨#[106,111,115,101,112,104,115,111,110]⟩
  | 11=>⟨#[107,108,105,116,122,105,110,103]⟩
  | _=>⟨#[112,114,111,116,111,110]⟩
def fSy:Nat→ByteArray
  | 0=>⟨#[110,97,118,111]⟩
  | 1=>⟨#[107,98,111,108,116,122]⟩
  | 2=>⟨#[114,103,97,115]⟩
  | 3=>⟨#[101,99,104,97,114,103,101]⟩
  | 4=>⟨#[102,102,97,114]⟩
  | 5=>⟨#[109,101,108,101,99]⟩
  | 6=>⟨#[103,103,114,97,118]⟩
  | 7=>⟨#[103,101,97,114,116,104]⟩
  | 8=>⟨#[99,108,105,103,104,116]⟩
  | 9=>⟨#[104,112,108,97,110,99,107]⟩
  | 10=>⟨#[107,106,111,115]⟩
  | 11=>⟨#[114,107,108,105,116,122]⟩
  | _=>⟨#[109,112,114,111,116]⟩
def fUs:Nat→ByteArray
  | 0=>⟨#[109,111,108]⟩
  | 1=>⟨#[109,32,107,103,32,115,32,75]⟩
  | 2=>⟨#[109,32,107,103,32,115,32,75,32,109,111,108]⟩
  | 3=>⟨#[65,32,115]⟩
  | 4=>⟨#[65,32,115,32,109,111,108]⟩
  | 5=>⟨#[107,103]⟩
  | 6=>⟨#[109,32,107,103,32,115]⟩
  | 7=>⟨#[109,32,115]⟩
  | 8=>⟨#[109,32,115]⟩
  | 9=>⟨#[109,32,107,103,32,115]⟩
  | 10=>⟨#[109,32,107,103,32,115,32,65]⟩
  | 11=>⟨#[109,32,107,103,32,115,32,65]⟩
  | _=>⟨#[107,103]⟩
def fFn:Nat→Nat
  | 0=>127
  | 1=>128
  | 2=>129
  | 3=>130
  | 4=>131
  | 5=>132
  | 6=>133
  | 7=>134
  | 8=>135
  | 9=>136
  | 10=>137
  | 11=>138
  | _=>139
def fcR:Value→Option (DataW Unit×List MemPlace)
  | .agg ⟨[.int .i64 p,.string s,.string u,.func (.func f) ⟨[]⟩ ⟨[]⟩]⟩=>if 0≤p∧p<13∧s=fSy p.toNat∧u=fUs p.toNat∧f=fFn p.toNat then some (.lit (.int .i64 p),[])else none
  | .agg ⟨[.int .i64 0,.string ⟨⟨[]⟩⟩,.string ⟨⟨[]⟩⟩,.nilFunc]⟩=>some (.lit (.int .i64 (-1)),[])
  | _=>none
theorem fcR_zero:fcR (.agg #[.int .i64 0,.string ⟨#[]⟩,.string ⟨#[]⟩,.nilFunc])=some (.lit (.int .i64 (-1)),[]):=rfl
def fcV (k:Nat):Value:=.agg #[.int .i64 (k:Int),.string (fSy k),.string (fUs k),.func (.func (fFn k)) #[] #[]]
theorem fcR_inv {v:Value} {p:Int} {ps:List MemPlace} (h:fcR v=some (.lit (.int .i64 p),ps)) (h0:0≤p):p<13∧v=fcV p.toNat:=by
  unfold fcR at h
  split at h
  · split at h
    · rename_i hc
      obtain⟨h1,h2,rfl,rfl,rfl⟩:=hc
      cases h
      refine⟨h2,?_⟩
      unfold fcV
      rw[Int.toNat_of_nonneg h1]
    · cases h
  · cases h
    omega
  · cases h
def fcD:Nat→DataW Unit
  | 0=>.map []
  | k+1=>(fcD k).put (.string (fNm k).data.toList) (.lit (.int .i64 (k:Int)))
theorem underM:Tryz.prog.underlying 99=some (.map 9 103):=by kernel_rfl
theorem fcR_0:fcR (Value.agg #[.int .i64 0,.string ⟨#[110,97,118,111]⟩,.string ⟨#[109,111,108]⟩,.func (.func 127) #[] #[]])=some (.lit (.int .i64 0),[]):=by kernel_rfl
theorem fcR_1:fcR (Value.agg #[.int .i64 1,.string ⟨#[107,98,111,108,116,122]⟩,.string ⟨#[109,32,107,103,32,115,32,75]⟩,.func (.func 128) #[] #[]])=some (.lit (.int .i64 1),[]):=by kernel_rfl
theorem fcR_2:fcR (Value.agg #[.int .i64 2,.string ⟨#[114,103,97,115]⟩,.string ⟨#[109,32,107,103,32,115,32,75,32,109,111,108]⟩,.func (.func 129) #[] #[]])=some (.lit (.int .i64 2),[]):=by kernel_rfl
theorem fcR_3:fcR (Value.agg #[.int .i64 3,.string ⟨#[101,99,104,97,114,103,101]⟩,.string ⟨#[65,32,115]⟩,.func (.func 130) #[] #[]])=some (.lit (.int .i64 3),[]):=by kernel_rfl
theorem fcR_4:fcR (Value.agg #[.int .i64 4,.string ⟨#[102,102,97,114]⟩,.string ⟨#[65,32,115,32,109,111,108]⟩,.func (.func 131) #[] #[]])=some (.lit (.int .i64 4),[]):=by kernel_rfl
theorem fcR_5:fcR (Value.agg #[.int .i64 5,.string ⟨#[109,101,108,101,99]⟩,.string ⟨#[107,103]⟩,.func (.func 132) #[] #[]])=some (.lit (.int .i64 5),[]):=by kernel_rfl
theorem fcR_6:fcR (Value.agg #[.int .i64 6,.string ⟨#[103,103,114,97,118]⟩,.string ⟨#[109,32,107,103,32,115]⟩,.func (.func 133) #[] #[]])=some (.lit (.int .i64 6),[]):=by kernel_rfl
theorem fcR_7:fcR (Value.agg #[.int .i64 7,.string ⟨#[103,101,97,114,116,104]⟩,.string ⟨#[109,32,115]⟩,.func (.func 134) #[] #[]])=some (.lit (.int .i64 7),[]):=by kernel_rfl
theorem fcR_8:fcR (Value.agg #[.int .i64 8,.string ⟨#[99,108,105,103,104,116]⟩,.string ⟨#[109,32,115]⟩,.func (.func 135) #[] #[]])=some (.lit (.int .i64 8),[]):=by kernel_rfl
theorem fcR_9:fcR (Value.agg #[.int .i64 9,.string ⟨#[104,112,108,97,110,99,107]⟩,.string ⟨#[109,32,107,103,32,115]⟩,.func (.func 136) #[] #[]])=some (.lit (.int .i64 9),[]):=by kernel_rfl
theorem fcR_10:fcR (Value.agg #[.int .i64 10,.string ⟨#[107,106,111,115]⟩,.string ⟨#[109,32,107,103,32,115,32,65]⟩,.func (.func 137) #[] #[]])=some (.lit (.int .i64 10),[]):=by kernel_rfl
theorem fcR_11:fcR (Value.agg #[.int .i64 11,.string ⟨#[114,107,108,105,116,122]⟩,.string ⟨#[109,32,107,103,32,115,32,65]⟩,.func (.func 138) #[] #[]])=some (.lit (.int .i64 11),[]):=by kernel_rfl
theorem fcR_12:fcR (Value.agg #[.int .i64 12,.string ⟨#[109,112,114,111,116]⟩,.string ⟨#[107,103]⟩,.func (.func 139) #[] #[]])=some (.lit (.int .i64 12),[]):=by kernel_rfl
theorem key_of (s:ByteArray) (h:s.size≤20):keyOf Tryz.prog 9 (.string s)=some (.string s.data.toList):=keyOf_string_mk Tryz.underlying9 (by unfold maxLen;omega)
set_option maxRecDepth 100000 in
set_option maxHeartbeats 2000000 in
theorem facts_any (w:World):Calls Tryz.prog 60 #[] w fun r w'=>r=.returned (.map (some w.heap.size))∧w'.ownsMap Tryz.prog 9 fcR w.heap.size 13 (fcD 13)∧Below w.heap.size w w':=by
  have hmm:=@run_makeMap Tryz.prog
  obtain⟨W1,hW1⟩:∃W1,W1=w.alloc (.map #[] 0):=⟨_,rfl⟩
  have HO:Hid (W1.ownsMap Tryz.prog 9 fcR w.heap.size 0 (fcD 0)):=by rw[hW1];exact World.ownsMap_made w Tryz.prog 9 fcR
  have HB:Hid (Below w.heap.size w W1∧w.heap.size+1≤W1.heap.size):=by rw[hW1];exact⟨(Below.refl _ _).alloc (Nat.le_refl _) _,by simp⟩
  go_enter Tryz.func60,Tryz.ntmps60
  go_wp2_with fail
  rw[←hW1]
  clear hW1
  obtain⟨wu0,hrun,r1,r2⟩:=(un HO).update (string_keyed Tryz.underlying9) underM (by unfold maxLen;omega) (key_of ⟨#[97,118,111,103,97,100,114,111]⟩ (by decide)) fcR_0
  rw[hrun]
  clear hrun HO
  have HO:Hid (wu0.ownsMap Tryz.prog 9 fcR w.heap.size 1 (fcD 1)):=r1
  replace HB:Hid (Below w.heap.size w wu0∧w.heap.size+1≤wu0.heap.size):=⟨(un HB).1.grown r2 (by have h:=(un HB).2;omega) (fun j hj=>by cases hj;exact Nat.le_refl _),Nat.le_trans (un HB).2 r2.size⟩
  clear r1 r2
  go_wp2_with fail
  obtain⟨wu1,hrun,r1,r2⟩:=(un HO).update (string_keyed Tryz.underlying9) underM (by unfold maxLen;omega) (key_of ⟨#[98,111,108,116,122,109,97,110,110]⟩ (by decide)) fcR_1
  rw[hrun]
  clear hrun HO
  have HO:Hid (wu1.ownsMap Tryz.prog 9 fcR w.heap.size 2 (fcD 2)):=r1
  replace HB:Hid (Below w.heap.size w wu1∧w.heap.size+1≤wu1.heap.size):=⟨(un HB).1.grown r2 (by have h:=(un HB).2;omega) (fun j hj=>by cases hj;exact Nat.le_refl _),Nat.le_trans (un HB).2 r2.size⟩
  clear r1 r2
  go_wp2_with fail
  obtain⟨wu2,hrun,r1,r2⟩:=(un HO).update (string_keyed Tryz.underlying9) underM (by unfold maxLen;omega) (key_of ⟨#[103,97,115]⟩ (by decide)) fcR_2
  rw[hrun]
  clear hrun HO
  have HO:Hid (wu2.ownsMap Tryz.prog 9 fcR w.heap.size 3 (fcD 3)):=r1
  replace HB:Hid (Below w.heap.size w wu2∧w.heap.size+1≤wu2.heap.size):=⟨(un HB).1.grown r2 (by have h:=(un HB).2;omega) (fun j hj=>by cases hj;exact Nat.le_refl _),Nat.le_trans (un HB).2 r2.size⟩
  clear r1 r2
  go_wp2_with fail
  obtain⟨wu3,hrun,r1,r2⟩:=(un HO).update (string_keyed Tryz.underlying9) underM (by unfold maxLen;omega) (key_of ⟨#[99,104,97,114,103,101]⟩ (by decide)) fcR_3
  rw[hrun]
  clear hrun HO
  have HO:Hid (wu3.ownsMap Tryz.prog 9 fcR w.heap.size 4 (fcD 4)):=r1
  replace HB:Hid (Below w.heap.size w wu3∧w.heap.size+1≤wu3.heap.size):=⟨(un HB).1.grown r2 (by have h:=(un HB).2;omega) (fun j hj=>by cases hj;exact Nat.le_refl _),Nat.le_trans (un HB).2 r2.size⟩
  clear r1 r2
  go_wp2_with fail
  obtain⟨wu4,hrun,r1,r2⟩:=(un HO).update (string_keyed Tryz.underlying9) underM (by unfold maxLen;omega) (key_of ⟨#[102,97,114,97,100,97,121]⟩ (by decide)) fcR_4
  rw[hrun]
  clear hrun HO
  have HO:Hid (wu4.ownsMap Tryz.prog 9 fcR w.heap.size 5 (fcD 5)):=r1
  replace HB:Hid (Below w.heap.size w wu4∧w.heap.size+1≤wu4.heap.size):=⟨(un HB).1.grown r2 (by have h:=(un HB).2;omega) (fun j hj=>by cases hj;exact Nat.le_refl _),Nat.le_trans (un HB).2 r2.size⟩
  clear r1 r2
  go_wp2_with fail
  obtain⟨wu5,hrun,r1,r2⟩:=(un HO).update (string_keyed Tryz.underlying9) underM (by unfold maxLen;omega) (key_of ⟨#[101,108,101,99,116,114,111,110]⟩ (by decide)) fcR_5
  rw[hrun]
  clear hrun HO
  have HO:Hid (wu5.ownsMap Tryz.prog 9 fcR w.heap.size 6 (fcD 6)):=r1
  replace HB:Hid (Below w.heap.size w wu5∧w.heap.size+1≤wu5.heap.size):=⟨(un HB).1.grown r2 (by have h:=(un HB).2;omega) (fun j hj=>by cases hj;exact Nat.le_refl _),Nat.le_trans (un HB).2 r2.size⟩
  clear r1 r2
  go_wp2_with fail
  obtain⟨wu6,hrun,r1,r2⟩:=(un HO).update (string_keyed Tryz.underlying9) underM (by unfold maxLen;omega) (key_of ⟨#[103,114,97,118,105,116,97,116,105,111,110]⟩ (by decide)) fcR_6
  rw[hrun]
  clear hrun HO
  have HO:Hid (wu6.ownsMap Tryz.prog 9 fcR w.heap.size 7 (fcD 7)):=r1
  replace HB:Hid (Below w.heap.size w wu6∧w.heap.size+1≤wu6.heap.size):=⟨(un HB).1.grown r2 (by have h:=(un HB).2;omega) (fun j hj=>by cases hj;exact Nat.le_refl _),Nat.le_trans (un HB).2 r2.size⟩
  clear r1 r2
  go_wp2_with fail
  obtain⟨wu7,hrun,r1,r2⟩:=(un HO).update (string_keyed Tryz.underlying9) underM (by unfold maxLen;omega) (key_of ⟨#[103,114,97,118,105,116,121]⟩ (by decide)) fcR_7
  rw[hrun]
  clear hrun HO
  have HO:Hid (wu7.ownsMap Tryz.prog 9 fcR w.heap.size 8 (fcD 8)):=r1
  replace HB:Hid (Below w.heap.size w wu7∧w.heap.size+1≤wu7.heap.size):=⟨(un HB).1.grown r2 (by have h:=(un HB).2;omega) (fun j hj=>by cases hj;exact Nat.le_refl _),Nat.le_trans (un HB).2 r2.size⟩
  clear r1 r2
  go_wp2_with fail
  obtain⟨wu8,hrun,r1,r2⟩:=(un HO).update (string_keyed Tryz.underlying9) underM (by unfold maxLen;omega) (key_of ⟨#[108,105,103,104,116]⟩ (by decide)) fcR_8
  rw[hrun]
  clear hrun HO
  have HO:Hid (wu8.ownsMap Tryz.prog 9 fcR w.heap.size 9 (fcD 9)):=r1
  replace HB:Hid (Below w.heap.size w wu8∧w.heap.size+1≤wu8.heap.size):=⟨(un HB).1.grown r2 (by have h:=(un HB).2;omega) (fun j hj=>by cases hj;exact Nat.le_refl _),Nat.le_trans (un HB).2 r2.size⟩
  clear r1 r2
  go_wp2_with fail
  obtain⟨wu9,hrun,r1,r2⟩:=(un HO).update (string_keyed Tryz.underlying9) underM (by unfold maxLen;omega) (key_of ⟨#[112,108,97,110,99,107]⟩ (by decide)) fcR_9
  rw[hrun]
  clear hrun HO
  have HO:Hid (wu9.ownsMap Tryz.prog 9 fcR w.heap.size 10 (fcD 10)):=r1
  replace HB:Hid (Below w.heap.size w wu9∧w.heap.size+1≤wu9.heap.size):=⟨(un HB).1.grown r2 (by have h:=(un HB).2;omega) (fun j hj=>by cases hj;exact Nat.le_refl _),Nat.le_trans (un HB).2 r2.size⟩
  clear r1 r2
  go_wp2_with fail
  obtain⟨wu10,hrun,r1,r2⟩:=(un HO).update (string_keyed Tryz.underlying9) underM (by unfold maxLen;omega) (key_of ⟨#[106,111,115,101,112,104,115,111,110]⟩ (by decide)) fcR_10
  rw[hrun]
  clear hrun HO
  have HO:Hid (wu10.ownsMap Tryz.prog 9 fcR w.heap.size 11 (fcD 11)):=r1
  replace HB:Hid (Below w.heap.size w wu10∧w.heap.size+1≤wu10.heap.size):=⟨(un HB).1.grown r2 (by have h:=(un HB).2;omega) (fun j hj=>by cases hj;exact Nat.le_refl _),Nat.le_trans (un HB).2 r2.size⟩
  clear r1 r2
  go_wp2_with fail
  obtain⟨wu11,hrun,r1,r2⟩:=(un HO).update (string_keyed Tryz.underlying9) underM (by unfold maxLen;omega) (key_of ⟨#[107,108,105,116,122,105,110,103]⟩ (by decide)) fcR_11
  rw[hrun]
  clear hrun HO
  have HO:Hid (wu11.ownsMap Tryz.prog 9 fcR w.heap.size 12 (fcD 12)):=r1
  replace HB:Hid (Below w.heap.size w wu11∧w.heap.size+1≤wu11.heap.size):=⟨(un HB).1.grown r2 (by have h:=(un HB).2;omega) (fun j hj=>by cases hj;exact Nat.le_refl _),Nat.le_trans (un HB).2 r2.size⟩
  clear r1 r2
  go_wp2_with fail
  obtain⟨wu12,hrun,r1,r2⟩:=(un HO).update (string_keyed Tryz.underlying9) underM (by unfold maxLen;omega) (key_of ⟨#[112,114,111,116,111,110]⟩ (by decide)) fcR_12
  rw[hrun]
  clear hrun HO
  have HO:Hid (wu12.ownsMap Tryz.prog 9 fcR w.heap.size 13 (fcD 13)):=r1
  replace HB:Hid (Below w.heap.size w wu12∧w.heap.size+1≤wu12.heap.size):=⟨(un HB).1.grown r2 (by have h:=(un HB).2;omega) (fun j hj=>by cases hj;exact Nat.le_refl _),Nat.le_trans (un HB).2 r2.size⟩
  clear r1 r2
  go_wp2_with fail
  go_ret
  exact⟨rfl,un HO,(un HB).1⟩
end Go.Proofs.YtliadckofhblnaaGreatDoor.Nt

namespace Go.Proofs.YtliadckofhblnaaGreatDoor.Nt
open Go.RowKit Go.Maps Go.ChangeMaps Go.WideMaps
def cT:Nat→Array Value
  | 0=>cT_avogadro
  | 1=>cT_boltzmann
  | 2=>cT_gas
  | 3=>cT_charge
  | 4=>cT_faraday
  | 5=>cT_electron
  | 6=>cT_gravitation
  | 7=>cT_gravity
  | 8=>cT_light
  | 9=>cT_planck
  | 10=>cT_josephson
  | 11=>cT_klitzing
  | _=>cT_proton
theorem told_at:∀k,k<13→∀w:World,Spc w→Tab w→Calls Tryz.prog 61 #[fcV k,.string (fNm k)] w fun r w'=>r=.returned (.agg (cT k))∧Below w.heap.size w w'
  | 0,_,w,hs,ht=>told_avogadro w hs ht
  | 1,_,w,hs,ht=>told_boltzmann w hs ht
  | 2,_,w,hs,ht=>told_gas w hs ht
  | 3,_,w,hs,ht=>told_charge w hs ht
  | 4,_,w,hs,ht=>told_faraday w hs ht
  | 5,_,w,hs,ht=>told_electron w hs ht
  | 6,_,w,hs,ht=>told_gravitation w hs ht
  | 7,_,w,hs,ht=>told_gravity w hs ht
  | 8,_,w,hs,ht=>told_light w hs ht
  | 9,_,w,hs,ht=>told_planck w hs ht
  | 10,_,w,hs,ht=>told_josephson w hs ht
  | 11,_,w,hs,ht=>told_klitzing w hs ht
  | 12,_,w,hs,ht=>told_proton w hs ht
  | _+13,h,_,_,_=>absurd h (by omega)
theorem at_name:∀k,k<13→∀zd,(fcD 13).atKey (.string (fNm k).data.toList) zd=.lit (.int .i64 (k:Int))∧Maps.has (fcD 13) (.string (fNm k).data.toList)=true
  | 0,_,_=>⟨by kernel_rfl,by kernel_rfl⟩
  | 1,_,_=>⟨by kernel_rfl,by kernel_rfl⟩
  | 2,_,_=>⟨by kernel_rfl,by kernel_rfl⟩
  | 3,_,_=>⟨by kernel_rfl,by kernel_rfl⟩
  | 4,_,_=>⟨by kernel_rfl,by kernel_rfl⟩
  | 5,_,_=>⟨by kernel_rfl,by kernel_rfl⟩
  | 6,_,_=>⟨by kernel_rfl,by kernel_rfl⟩
  | 7,_,_=>⟨by kernel_rfl,by kernel_rfl⟩
  | 8,_,_=>⟨by kernel_rfl,by kernel_rfl⟩
  | 9,_,_=>⟨by kernel_rfl,by kernel_rfl⟩
  | 10,_,_=>⟨by kernel_rfl,by kernel_rfl⟩
  | 11,_,_=>⟨by kernel_rfl,by kernel_rfl⟩
  | 12,_,_=>⟨by kernel_rfl,by kernel_rfl⟩
  | _+13,h,_=>absurd h (by omega)
theorem has_only (kl:Lit):∀n,Maps.has (fcD n) kl=true→∃k,k<n∧kl=.string (fNm k).data.toList
  | 0,h=>absurd h (by simp[fcD,Maps.has])
  | n + 1,h=>by
    by_cases e:kl=.string (fNm n).data.toList
    · exact⟨n,by omega,e⟩
    · rw[show fcD (n+1)=(fcD n).put (.string (fNm n).data.toList) (.lit (.int .i64 (n:Int)))from rfl,Maps.has_put_other e]at h
      obtain⟨k,hk,e⟩:=has_only kl n h
      exact⟨k,by omega,e⟩
theorem has_none (s:ByteArray) (h:∀k,k<13→s≠fNm k):Maps.has (fcD 13) (.string s.data.toList)=false:=by
  cases e:Maps.has (fcD 13) (.string s.data.toList)with
  | false=>rfl
  | true=>
    obtain⟨k,hk,hs⟩:=has_only _ 13 e
    refine absurd ?_ (h k hk)
    injection hs with hs
    exact ByteArray.ext (Array.ext' hs)
end Go.Proofs.YtliadckofhblnaaGreatDoor.Nt

namespace Go.Proofs.YtliadckofhblnaaGreatDoor.Nt
open Go.RowKit Go.Maps Go.ChangeMaps Go.WideMaps
theorem res45b {fn:Func} {p u:Tmp} (h:fn.results=#[.cell p 45,.tmp u]) (tmps:Array Value) (w:World) (g:Nat) (vs:Array Value) (hl:vs.size=7) (hp:tmps.getD p undef=.pointer (some ⟨g,0,none⟩)) (ho:OwnU w g 45 vs) :
    (results fn tmps).run Tryz.prog w=.ok (.tuple #[.agg vs,tmps.getD u undef]) w:=by
  rw[results_cell_tmp h,hp]
  simp only[asAddr,Sem.run_pure,Result.andThen_ok]
  rw[run_loadVar_row w g 45 45 vs (0,0) _ ho Tryz.underlying45 rfl (by rw[info45,hl])]
  rfl
theorem cT_strings:∀k,k<13→∃a0 a1 a2 a3 a4 a5 a6,cT k=#[.string a0,.string a1,.string a2,.string a3,.string a4,.string a5,.string a6]
  | 0,_=>⟨_,_,_,_,_,_,_,rfl⟩
  | 1,_=>⟨_,_,_,_,_,_,_,rfl⟩
  | 2,_=>⟨_,_,_,_,_,_,_,rfl⟩
  | 3,_=>⟨_,_,_,_,_,_,_,rfl⟩
  | 4,_=>⟨_,_,_,_,_,_,_,rfl⟩
  | 5,_=>⟨_,_,_,_,_,_,_,rfl⟩
  | 6,_=>⟨_,_,_,_,_,_,_,rfl⟩
  | 7,_=>⟨_,_,_,_,_,_,_,rfl⟩
  | 8,_=>⟨_,_,_,_,_,_,_,rfl⟩
  | 9,_=>⟨_,_,_,_,_,_,_,rfl⟩
  | 10,_=>⟨_,_,_,_,_,_,_,rfl⟩
  | 11,_=>⟨_,_,_,_,_,_,_,rfl⟩
  | 12,_=>⟨_,_,_,_,_,_,_,rfl⟩
  | _+13,h=>absurd h (by omega)
set_option maxRecDepth 100000 in
set_option maxHeartbeats 2000000 in
theorem find_name (s:ByteArray) (hz:s.size≤maxLen) (k:Nat) (hk:k<13) (hs:s=fNm k) (w:World) (hsp:Spc w) (htb:Tab w):Calls Tryz.prog 26 #[.string s] w fun r w'=>r=.returned (.tuple #[.agg (cT k),.bool true])∧Below w.heap.size w w':=by
  have HK:Hid (keyOf Tryz.prog 9 (.string s)=some (.string s.data.toList)):=keyOf_string_mk Tryz.underlying9 hz
  obtain⟨V,hV⟩:∃V,V=w.alloc (.cells zC 45):=⟨_,rfl⟩
  have HR:Hid (OwnU V w.heap.size 45 zC):=by rw[hV];exact OwnU.new _ _ _
  have HV:Hid (Below w.heap.size w V):=by rw[hV];exact(Below.refl _ _).alloc (Nat.le_refl _) _
  have HH:Hid (Maps.has (fcD 13) (.string s.data.toList)=true):=by rw[hs];exact(at_name k hk (.lit (.int .i64 0))).2
  have HA:Hid (∀v ps,fcR v=some ((fcD 13).atKey (.string s.data.toList) (.lit (.int .i64 (-1))),ps)→v=fcV k):=fun v ps hv=>by
    rw[hs,(at_name k hk _).1]at hv
    have h:=(fcR_inv hv (by omega)).2
    rw[h];rfl
  have HT:Hid (∀W,Below w.heap.size w W→Calls Tryz.prog 61 #[fcV k,.string s] W fun r w'=>r=.returned (.agg (cT k))∧Below W.heap.size W w'):=fun W hb=>by rw[hs];exact told_at k hk W (hsp.later hb) (htb.later hb)
  have HF:Hid (Calls Tryz.prog 60 #[] V fun r w'=>r=.returned (.map (some V.heap.size))∧w'.ownsMap Tryz.prog 9 fcR V.heap.size 13 (fcD 13)∧Below V.heap.size V w'):=facts_any V
  have HVV:=hide hV
  unfold fcV at HA HT
  generalize fSy k=sy at *
  generalize fUs k=us at *
  generalize fFn k=f at *
  obtain⟨a0,a1,a2,a3,a4,a5,a6,hct⟩:=cT_strings k hk
  rw[hct]at HT ⊢
  clear hct
  clear hV hs hsp htb
  go_enter Tryz.func26,Tryz.ntmps26
  go_wp2_with (first
    | (go_at_call 60;go_must(rw[←un HVV];refine(un HF).mono ?_;rintro e w1 ⟨rfl,hown,hb⟩;have HO:=hide hown;have HB:=hide hb;clear hown hb))
    | (at_lookup;refine wpList_lookup_own_ok _ rfl _ _ 99 rfl 9 103 (string_keyed Tryz.underlying9) underM fcR (Tryz.zeroValue103 _) _ _ fcR_zero V.heap.size 13 (fcD 13) rfl (un HO) _ _ rfl (un HK) ?_;intro v ps hv;obtain rfl:=un HA v ps hv;rw[un HH];clear hv;have HB1:Hid (Below w.heap.size w w1):=(un HV).trans ((un HB).mono (un HV).size);have HR1:=hide ((un HR).later (un HB)))
    | (go_at_call 61;go_must(refine(un HT _ ((un HB1).alloc (un HB1).size _)).mono ?_;rintro e w2 ⟨rfl,hb⟩;have HB2:=hide (((un HB1).alloc (un HB1).size _).trans (hb.mono ((un HB1).alloc (un HB1).size _).size));have HR2:=hide (((un HR1).alloc _).later hb);clear hb))
    | (refine storeT 45 7 info45 rfl (.tmp 2) (.tmp 19) rfl w.heap.size zC #[.string a0,.string a1,.string a2,.string a3,.string a4,.string a5,.string a6] rfl rfl rfl rfl (un HR2) (by kernel_rfl) ?_))
  exact bodyPost_ret (v:=.tuple #[.agg #[.string a0,.string a1,.string a2,.string a3,.string a4,.string a5,.string a6],.bool true]) (res45b Tryz.results26 _ _ w.heap.size _ rfl rfl ((un HR2).setRow _)) rfl ⟨rfl,below_setRow (un HB2) (Nat.le_refl _) _⟩
end Go.Proofs.YtliadckofhblnaaGreatDoor.Nt

namespace Go.Proofs.YtliadckofhblnaaGreatDoor.Nt
open Go.RowKit Go.Maps Go.ChangeMaps Go.WideMaps
theorem of_toList {a b:ByteArray} (h:(a.toList == b.toList)=true):a=b:=by
  have e:a.toList=b.toList:=by simpa using h
  have h1:a.data.toList=b.data.toList:=by rw[←Lib.toList_data a,←Lib.toList_data b,e]
  exact ByteArray.ext (Array.ext' h1)
theorem keyOf_string_inv {P:Program} {k:TypeId} (hk:P.underlying k=some .string) {key:Value} {kl:Lit} (h:keyOf P k key=some kl):∃s,key=.string s:=by
  cases key<;>simp[keyOf,hk,mapKey]at h
  exact⟨_,rfl⟩
theorem key_inv {x y:ByteArray} (h:keyOf Tryz.prog 9 (.string x)=some (.string y.data.toList)):x=y:=by
  simp[keyOf,Tryz.underlying9,mapKey]at h
  exact ByteArray.ext h.2
theorem fNm_other:∀j,j<13→∀k,k<13→j≠k→(Lit.string (fNm j).data.toList).sameKey (.string (fNm k).data.toList)=false:=by decide +kernel
set_option maxRecDepth 100000 in
set_option maxHeartbeats 2000000 in
theorem find_other (s:ByteArray) (hz:s.size≤maxLen) (hn:∀k,k<13→s≠fNm k) (w:World) (hsp:Spc w) (htb:Tab w):Calls Tryz.prog 26 #[.string s] w fun r w'=>((∃k,k<13∧fSy k=s∧r=.returned (.tuple #[.agg (cT k),.bool true]))∨((∀k,k<13→fSy k≠s)∧r=.returned (.tuple #[.agg zC,.bool false])))∧Below w.heap.size w w':=by
  have HK:Hid (keyOf Tryz.prog 9 (.string s)=some (.string s.data.toList)):=keyOf_string_mk Tryz.underlying9 hz
  obtain⟨V,hV⟩:∃V,V=w.alloc (.cells zC 45):=⟨_,rfl⟩
  have HR:Hid (OwnU V w.heap.size 45 zC):=by rw[hV];exact OwnU.new _ _ _
  have HV:Hid (Below w.heap.size w V):=by rw[hV];exact(Below.refl _ _).alloc (Nat.le_refl _) _
  have HGV:Hid (w.heap.size<V.heap.size):=by rw[hV];show _<_;simp
  have HH:Hid (Maps.has (fcD 13) (.string s.data.toList)=false):=has_none s hn
  have HA:Hid (∀v ps,fcR v=some ((fcD 13).atKey (.string s.data.toList) (.lit (.int .i64 (-1))),ps)→v=.agg #[.int .i64 0,.string ⟨#[]⟩,.string ⟨#[]⟩,.nilFunc]):=fun v ps hv=>by
    rw[Maps.atKey_of_not_has (un HH)]at hv
    unfold fcR at hv
    split at hv
    · split at hv
      · rename_i hc
        obtain⟨h1,_⟩:=hc
        cases hv
        omega
      · cases hv
    · rfl
    · cases hv
  have HT:Hid (∀k,k<13→∀W,Below w.heap.size w W→Calls Tryz.prog 61 #[fcV k,.string (fNm k)] W fun r w'=>r=.returned (.agg (cT k))∧Below W.heap.size W w'):=fun k hk W hb=>told_at k hk W (hsp.later hb) (htb.later hb)
  have HF:Hid (Calls Tryz.prog 60 #[] V fun r w'=>r=.returned (.map (some V.heap.size))∧w'.ownsMap Tryz.prog 9 fcR V.heap.size 13 (fcD 13)∧Below V.heap.size V w'):=facts_any V
  have HVV:=hide hV
  have HN:=hide hn
  clear hV hn hsp htb
  go_enter Tryz.func26,Tryz.ntmps26
  go_wp2_with (first
    | (go_at_call 60;go_must(rw[←un HVV];refine(un HF).mono ?_;rintro e w1 ⟨rfl,hown,hb⟩;have HO:=hide hown;have HB:=hide hb;clear hown hb))
    | (at_lookup;refine wpList_lookup_own_ok _ rfl _ _ 99 rfl 9 103 (string_keyed Tryz.underlying9) underM fcR (Tryz.zeroValue103 _) _ _ fcR_zero V.heap.size 13 (fcD 13) rfl (un HO) _ _ rfl (un HK) ?_;intro v ps hv;obtain rfl:=un HA v ps hv;rw[un HH];clear hv;have HB1:Hid (Below w.heap.size w w1):=(un HV).trans ((un HB).mono (un HV).size);have HR1:=hide ((un HR).later (un HB)))
    | (at_range;refine wpList_range_own _ rfl _ 99 rfl 9 103 (string_keyed Tryz.underlying9) underM fcR V.heap.size 13 (fcD 13) rfl ((un HO).alloc _) ?_;intro w3 hrg hgr hsz;rw[Dm.size_alloc]at hrg;rw[Dm.size_alloc];go_frame))
  have HRG:Hid (w3.ranges Tryz.prog 9 fcR V.heap.size (w1.heap.size+1) 13 (fcD 13) (Maps.has (fcD 13)) (Maps.size (fcD 13))):=hrg
  have HB3:Hid (Below w.heap.size w w3):=((un HB1).alloc (un HB1).size _).grown hgr ((un HB1).alloc (un HB1).size _).size (fun j hj=>by cases hj)
  have HR3:Hid (OwnU w3 w.heap.size 45 zC):=(hgr.block _ (OwnU.lt ((un HR1).alloc _)) (by simp)).trans ((un HR1).alloc _)
  clear hrg hgr hsz
  go_loopw [7] (fun _ wr=>∃(left:Lit→Bool) (cnt:Nat),Hid (wr.ranges Tryz.prog 9 fcR V.heap.size (w1.heap.size+1) 13 (fcD 13) left cnt)∧Hid ((∀kl,left kl=true→Maps.has (fcD 13) kl=true)∧∀k,k<13→fSy k=s→left (.string (fNm k).data.toList)=true)∧Hid (Below w.heap.size w wr)∧Hid (OwnU wr w.heap.size 45 zC)) (fun _ wr=>wr.rangeLeft V.heap.size (w1.heap.size+1))
  case atStart=>exact⟨_,_,HRG,⟨fun _ h=>h,fun k hk _=>(at_name k hk (.lit (.int .i64 0))).2⟩,HB3,HR3⟩
  case round=>
    obtain⟨left,cnt,HG,HL,HBr,HRr⟩:=hrel
    go_wp2_with (at_next;go_loud (refine wpList_next_ranges _ rfl _ rfl 9 (string_keyed Tryz.underlying9) fcR (fun x:ByteArray=>.string x) (fun v:Value=>v) (fun key kl h=>keyOf_string_inv Tryz.underlying9 h) (fun v y _=>⟨v,rfl⟩) V.heap.size (w1.heap.size+1) 13 (fcD 13) left cnt rfl (un HG) ?_ ?_))
    · intro _ hl0
      have HE:Hid (∀k,k<13→fSy k≠s):=fun k hk e=>by
        have h1:=(un HL).2 k hk e
        rw[hl0]at h1
        cases h1
      clear hl0 HL HG
      go_wp2_with (refine storeT 45 7 info45 rfl (.tmp 2) (.tmp 34) rfl w.heap.size zC zC rfl rfl rfl rfl (un HRr) (by kernel_rfl) ?_)
      exact bodyPost_ret (v:=.tuple #[.agg zC,.bool false]) (res45b Tryz.results26 _ _ w.heap.size _ rfl rfl ((un HRr).setRow _)) rfl ⟨Or.inr ⟨un HE,rfl⟩,below_setRow (un HBr) (Nat.le_refl _) _⟩
    · intro x v kl d ps w4 cnt4 hkx hlx hv hat hrg4 hlt hg4 hs4 hen
      obtain⟨k,hk,rfl⟩:=has_only kl 13 ((un HL).1 kl hlx)
      obtain rfl:x=fNm k:=key_inv hkx
      obtain rfl:d=.lit (.int .i64 (k:Int)):=by have h:=hat (.lit (.int .i64 0));rw[(at_name k hk _).1]at h;exact h.symm
      obtain rfl:v=fcV k:=by have h:=(fcR_inv hv (by omega)).2;rw[h];rfl
      have hle:w.heap.size≤w1.heap.size:=(un HB1).size
      have HB4:Hid (Below w.heap.size w w4):=(un HBr).grown hg4 (un HBr).size (fun j hj=>by cases hj;omega)
      have HR4:Hid (OwnU w4 w.heap.size 45 zC):=(hg4.block _ (OwnU.lt (un HRr)) (by simp;omega)).trans (un HRr)
      have HG4:=hide hrg4
      have HLT:Hid (cnt4<cnt):=hlt
      have HTK:=hide (un HT k hk)
      have HCK:Hid (cnt=wr.rangeLeft V.heap.size (w1.heap.size+1)):=(un HG).left_eq.symm
      obtain⟨a0,a1,a2,a3,a4,a5,a6,hct⟩:=cT_strings k hk
      have hL1:∀z,(left z && !z.sameKey (.string (fNm k).data.toList))=true→Maps.has (fcD 13) z=true:=fun z h=>(un HL).1 z (by simp at h;exact h.1)
      have HL1:=hide hL1
      clear hrg4 hlt hkx hlx hv hat hg4 hs4 hL1
      by_cases e:fSy k=s
      · have HOUT:Hid (∃k,k<13∧fSy k=s∧Ending.returned (.tuple #[.agg #[.string a0,.string a1,.string a2,.string a3,.string a4,.string a5,.string a6],.bool true])=Ending.returned (.tuple #[.agg (cT k),.bool true])):=⟨k,hk,e,by rw[hct]⟩
        rw[hct]at HTK
        unfold fcV at hen HTK
        have hq:((fSy k).toList == s.toList)=true:=by rw[e];simp
        clear hct HL HL1 e
        generalize fSy k=sy at *
        generalize fUs k=us at *
        generalize fFn k=f at *
        generalize fNm k=nm at *
        go_wp2_with (first
          | (go_at_call 61;go_must(refine(un HTK _ ((un HB4).alloc (un HB4).size _)).mono ?_;rintro e w5 ⟨rfl,hb⟩;have HB5:=hide (((un HB4).alloc (un HB4).size _).trans (hb.mono ((un HB4).alloc (un HB4).size _).size));have HR5:=hide (((un HR4).alloc _).later hb);clear hb))
          | (refine storeT 45 7 info45 rfl (.tmp 2) (.tmp 33) rfl w.heap.size zC #[.string a0,.string a1,.string a2,.string a3,.string a4,.string a5,.string a6] rfl rfl rfl rfl (un HR5) (by kernel_rfl) ?_))
        exact bodyPost_ret (v:=.tuple #[.agg #[.string a0,.string a1,.string a2,.string a3,.string a4,.string a5,.string a6],.bool true]) (res45b Tryz.results26 _ _ w.heap.size _ rfl rfl ((un HR5).setRow _)) rfl ⟨Or.inl (un HOUT),below_setRow (un HB5) (Nat.le_refl _) _⟩
      · have HL2:Hid (∀j,j<13→fSy j=s→(left (.string (fNm j).data.toList) && !(Lit.string (fNm j).data.toList).sameKey (.string (fNm k).data.toList))=true):=fun j hj ej=>by
          rw[(un HL).2 j hj ej]
          have hne:j≠k:=fun h=>e (h ▸ ej)
          rw[fNm_other j hj k hk hne];rfl
        unfold fcV at hen HTK
        have hq:((fSy k).toList == s.toList)=false:=by
          cases h:((fSy k).toList == s.toList)with
          | false=>rfl
          | true=>exact absurd (of_toList h) e
        clear hct HL e HTK
        generalize fSy k=sy at *
        generalize fUs k=us at *
        generalize fFn k=f at *
        go_wp2_with fail
        go_roundw
        case rel=>exact⟨_,_,(un HG4).alloc _,⟨un HL1,un HL2⟩,(un HB4).alloc (un HB4).size _,(un HR4).alloc _⟩
        case measure=>rw[←un HCK,((un HG4).alloc _).left_eq];exact un HLT
end Go.Proofs.YtliadckofhblnaaGreatDoor.Nt

namespace Go.Proofs.YtliadckofhblnaaGreatDoor.Nt
open Go.RowKit
def cAll:Array Value:=((List.range 13).flatMap fun k=>(cT k).toList).toArray
theorem info28n:(Tryz.prog.info? 28).map (·.size)=some 2:=by kernel_rfl
theorem info45r:(Tryz.prog.info? 45).map (fun i=>(i.zero,i.size,i.bytes))=some (some (.agg zC),7,112):=by kernel_rfl
theorem under41:Tryz.prog.underlying 41=some (.slice 45):=by kernel_rfl
set_option maxRecDepth 100000 in
set_option maxHeartbeats 8000000 in
theorem refAll (w:World):Calls Tryz.prog 25 #[] w fun r w'=>∃W,r=.returned (.slice (some ⟨W.heap.size,0,none⟩) 13 13)∧w'=W.alloc (.cells cAll 45)∧Below w.heap.size w W:=by
  obtain⟨i0,hi,hz0,hz1,hz2⟩:=info_parts info45r
  have HI0:=hide hi;have HZ0:=hide hz0;have HZ1:=hide hz1
  obtain⟨V,hV⟩:∃V,V=w.alloc (.cells #[.string ⟨#[]⟩,.string ⟨#[]⟩] 28):=⟨_,rfl⟩
  have HR0:Hid (OwnU V w.heap.size 28 #[.string ⟨#[]⟩,.string ⟨#[]⟩]):=by rw[hV];exact OwnU.new _ _ _
  have HB0:Hid (Below w.heap.size w V):=by rw[hV];exact(Below.refl _ _).alloc (Nat.le_refl _) _
  have HVV:=hide hV
  clear hi hz0 hz1 hz2 hV
  go_enter Tryz.func25,Tryz.ntmps25
  go_wp2_with (first
    | (refine storeT 28 2 info28n rfl (.tmp 1) (.tmp 2) rfl w.heap.size #[.string ⟨#[]⟩,.string ⟨#[]⟩] #[.string ⟨#[48]⟩,.string ⟨#[49]⟩] rfl rfl rfl rfl (by rw[←un HVV];exact un HR0) (by kernel_rfl) ?_;rw[←un HVV];have HR:Hid (OwnU (V.setRow w.heap.size #[.string ⟨#[48]⟩,.string ⟨#[49]⟩]) w.heap.size 28 #[.string ⟨#[48]⟩,.string ⟨#[49]⟩]):=(un HR0).setRow _;have HB:Hid (Below w.heap.size w (V.setRow w.heap.size #[.string ⟨#[48]⟩,.string ⟨#[49]⟩])):=below_setRow (un HB0) (Nat.le_refl _) _;clear HR0 HB0 HVV;obtain⟨W,hW⟩:∃W,W=V.setRow w.heap.size #[.string ⟨#[48]⟩,.string ⟨#[49]⟩]:=⟨_,rfl⟩;rw[←hW]at HR HB ⊢;clear hW)
    | (refine wpList_load_row rfl 28 (.tmp 1) rfl w.heap.size rfl 28 #[.string ⟨#[48]⟩,.string ⟨#[49]⟩] (0,0) _ (un HR) Tryz.underlying28 rfl (by kernel_rfl) ?_)
    | (refine wpList_buildSlice rfl 41 45 13 _ rfl cAll i0 (.agg zC) under41 (un HI0) (un HZ0) (by rw[un HZ1];decide) (by rw[un HZ1];decide) (by rw[un HZ1];kernel_rfl) ?_))
  go_ret
  exact⟨W,rfl,rfl,un HB⟩
theorem cAll_ex:∀k,k<13→cAll.extract (k*7) (k*7+7)=cT k
  | 0,_=>by kernel_rfl
  | 1,_=>by kernel_rfl
  | 2,_=>by kernel_rfl
  | 3,_=>by kernel_rfl
  | 4,_=>by kernel_rfl
  | 5,_=>by kernel_rfl
  | 6,_=>by kernel_rfl
  | 7,_=>by kernel_rfl
  | 8,_=>by kernel_rfl
  | 9,_=>by kernel_rfl
  | 10,_=>by kernel_rfl
  | 11,_=>by kernel_rfl
  | 12,_=>by kernel_rfl
  | _+13,h=>absurd h (by omega)
theorem cAll_size:cAll.size=91:=by kernel_rfl
theorem cT_size:∀k,k<13→(cT k).size=7:=by decide +kernel
theorem cAll_row (k:Nat) (hk:k<13) (i:Nat) (v:Value) (h:(cT k)[i]?=some v):cAll[k*7+i]?=some v:=by
  have hi:i<7:=by have:=(Array.getElem?_eq_some_iff.1 h).1;rw[cT_size k hk]at this;exact this
  rw[←cAll_ex k hk,Array.getElem?_extract,if_pos (by rw[cAll_size];omega)]at h
  exact h
def CR (W:World) (g k:Nat):Prop:=∀i v,(cT k)[i]?=some v→W.cell? ⟨g,k*7+i,none⟩=some v
theorem CR.later {W V:World} {B g k:Nat} (h:CR W g k) (hb:Below B W V) (hg:g<B):CR V g k:=fun i v e=>(hb.cell (p:=⟨g,k*7+i,none⟩) hg).trans (h i v e)
theorem cAll_at (W:World) (k:Nat) (hk:k<13):CR (W.alloc (.cells cAll 45)) W.heap.size k:=fun i v e=>(OwnU.new W cAll 45).ub.c _ _ (cAll_row k hk i v e)
theorem cT_words:∀k,k<13→∃a2 a3 a4 a5 a6,cT k=#[.string (fNm k),.string (fSy k),.string a2,.string a3,.string a4,.string a5,.string a6]
  | 0,_=>⟨_,_,_,_,_,rfl⟩
  | 1,_=>⟨_,_,_,_,_,rfl⟩
  | 2,_=>⟨_,_,_,_,_,rfl⟩
  | 3,_=>⟨_,_,_,_,_,rfl⟩
  | 4,_=>⟨_,_,_,_,_,rfl⟩
  | 5,_=>⟨_,_,_,_,_,rfl⟩
  | 6,_=>⟨_,_,_,_,_,rfl⟩
  | 7,_=>⟨_,_,_,_,_,rfl⟩
  | 8,_=>⟨_,_,_,_,_,rfl⟩
  | 9,_=>⟨_,_,_,_,_,rfl⟩
  | 10,_=>⟨_,_,_,_,_,rfl⟩
  | 11,_=>⟨_,_,_,_,_,rfl⟩
  | 12,_=>⟨_,_,_,_,_,rfl⟩
  | _+13,h=>absurd h (by omega)
def cB (s:ByteArray) (k:Nat):Bool:=(fNm k).toList == s.toList || (fSy k).toList == s.toList
theorem words_apart:∀j,j<13→∀k,k<13→j≠k→((fNm j).toList == (fNm k).toList || (fNm j).toList == (fSy k).toList || (fSy j).toList == (fNm k).toList || (fSy j).toList == (fSy k).toList)=false:=by decide +kernel
def FindC (s:ByteArray) (v:Value):Prop:=(∃k:Nat,k<13∧cB s k=true∧v=.tuple #[.agg (cT k),.bool true])∨((∀k,k<13→cB s k=false)∧v=.tuple #[.agg zC,.bool false])
theorem cB_one {s:ByteArray} {j k:Nat} (hj:j<13) (hk:k<13) (h1:cB s j=true) (h2:cB s k=true):j=k:=by
  refine Decidable.byContradiction fun hne=>?_
  have hw:=words_apart j hj k hk hne
  simp only[Bool.or_eq_false_iff,beq_eq_false_iff_ne]at hw
  obtain⟨⟨⟨a,b⟩,c⟩,d⟩:=hw
  unfold cB at h1 h2
  simp only[Bool.or_eq_true,beq_iff_eq]at h1 h2
  rcases h1 with e|e<;>rcases h2 with f|f
  · exact a (e.trans f.symm)
  · exact b (e.trans f.symm)
  · exact c (e.trans f.symm)
  · exact d (e.trans f.symm)
theorem FindC.det {s:ByteArray} {v u:Value} (h1:FindC s v) (h2:FindC s u):v=u:=by
  rcases h1 with ⟨a,ha,fa,rfl⟩|⟨fa,rfl⟩<;>rcases h2 with ⟨c,hc,fc,rfl⟩|⟨fc,rfl⟩
  · rw[cB_one ha hc fa fc]
  · rw[fc a ha]at fa;cases fa
  · rw[fa c hc]at fc;cases fc
  · rfl
theorem size_of_toList {a b:ByteArray} (h:a=b):(a.toList == b.toList)=true:=by rw[h];simp
theorem find_any (s:ByteArray) (hz:s.size≤maxLen) (w:World) (hsp:Spc w) (htb:Tab w):Calls Tryz.prog 26 #[.string s] w fun r w'=>∃v,r=.returned v∧FindC s v∧Below w.heap.size w w':=by
  by_cases h:∃k,k<13∧s=fNm k
  · obtain⟨k,hk,hs⟩:=h
    refine(find_name s hz k hk hs w hsp htb).mono ?_
    rintro r w' ⟨rfl,hb⟩
    exact⟨_,rfl,Or.inl ⟨k,hk,by unfold cB;rw[size_of_toList hs.symm];rfl,rfl⟩,hb⟩
  · refine(find_other s hz (fun k hk e=>h ⟨k,hk,e⟩) w hsp htb).mono ?_
    rintro r w' ⟨⟨k,hk,hs,rfl⟩|⟨hs,rfl⟩,hb⟩
    · exact⟨_,rfl,Or.inl ⟨k,hk,by unfold cB;rw[size_of_toList hs,Bool.or_true],rfl⟩,hb⟩
    · refine⟨_,rfl,Or.inr ⟨fun k hk=>?_,rfl⟩,hb⟩
      cases e:cB s k with
      | false=>rfl
      | true=>
        unfold cB at e
        rw[Bool.or_eq_true]at e
        rcases e with e|e
        · exact absurd ⟨k,hk,(of_toList e).symm⟩ h
        · exact absurd (of_toList e) (hs k hk)
set_option maxRecDepth 100000 in
set_option maxHeartbeats 8000000 in
theorem refFindC (s:ByteArray) (w:World):Calls Tryz.prog 27 #[.string s] w fun r w'=>∃v,r=.returned v∧FindC s v∧Below w.heap.size w w':=by
  obtain⟨V,hV⟩:∃V,V=w.alloc (.cells zC 45):=⟨_,rfl⟩
  have HR:Hid (OwnU V w.heap.size 45 zC):=by rw[hV];exact OwnU.new _ _ _
  have HV:Hid (Below w.heap.size w V):=by rw[hV];exact(Below.refl _ _).alloc (Nat.le_refl _) _
  have HVV:=hide hV
  clear hV
  go_enter Tryz.func27,Tryz.ntmps27
  go_wp2_with (go_at_call 25;go_must(rw[←un HVV];refine(refAll _).mono ?_;rintro e W0 ⟨W,rfl,rfl,hb⟩;have HUW:=hide (fun k hk=>cAll_at W k hk);have HGW:Hid (W.heap.size<(W.alloc (.cells cAll 45)).heap.size):=(by show _<_;simp);have HBW:Hid (Below V.heap.size V (W.alloc (.cells cAll 45))):=hb.alloc hb.size _;clear hb;obtain⟨gU,hgU⟩:∃gU,gU=W.heap.size:=⟨_,rfl⟩;obtain⟨V3,hV3⟩:∃V3,V3=W.alloc (.cells cAll 45):=⟨_,rfl⟩;rw[←hV3,←hgU]at HUW HGW;rw[←hV3]at HBW;rw[←hV3,←hgU];clear hgU hV3))
  have HB3:Hid (Below w.heap.size w V3):=(un HV).trans ((un HBW).mono (un HV).size)
  have HR3:Hid (OwnU V3 w.heap.size 45 zC):=(un HR).later (un HBW)
  clear HR HV HVV HBW
  go_loopw [5] (fun s6 wr=>∃(k:Nat),k≤13∧s6=I (k:Int)∧Hid (∀i,i<k→cB s i=false)∧Hid (OwnU wr w.heap.size 45 zC)∧Hid (∀k,k<13→CR wr gU k)∧Hid (Below w.heap.size w wr)) (fun s6 _=>13 - (intOf s6).toNat)
  case atStart=>exact⟨0,by omega,rfl,fun i hi=>absurd hi (by omega),HR3,HUW,HB3⟩
  case round=>
    obtain⟨k,hk,rfl,HN,HO,HC,HB⟩:=hrel
    by_cases hk8:k<13
    · have hkI:(k:Int)<13:=by omega
      have hk0:(0:Int)≤(k:Int):=by omega
      have hrow:=un HC k hk8
      obtain⟨a2,a3,a4,a5,a6,hct⟩:=cT_words k hk8
      have HNK:=hide (fun (e:cB s k=false)=>(fun i hi=>if h:i=k then h ▸ e else un HN i (by omega):∀i,i<k+1→cB s i=false))
      have HYK:=hide (fun (e:cB s k=true)=>(Or.inl ⟨k,hk8,e,by rw[hct]⟩:FindC s (.tuple #[.agg #[.string (fNm k),.string (fSy k),.string a2,.string a3,.string a4,.string a5,.string a6],.bool true])))
      have HSB:Hid (cB s k=((fNm k).toList == s.toList || (fSy k).toList == s.toList)):=rfl
      unfold CR at hrow
      rw[hct]at hrow
      clear hct
      generalize fNm k=nm at *
      generalize fSy k=sy at *
      have c0:wr.cell? ⟨gU,k*7,none⟩=some (.string nm):=hrow 0 _ rfl
      have c1:wr.cell? ⟨gU,k*7+1,none⟩=some (.string sy):=hrow 1 _ rfl
      have c2:wr.cell? ⟨gU,k*7+2,none⟩=some (.string a2):=hrow 2 _ rfl
      have c3:wr.cell? ⟨gU,k*7+3,none⟩=some (.string a3):=hrow 3 _ rfl
      have c4:wr.cell? ⟨gU,k*7+4,none⟩=some (.string a4):=hrow 4 _ rfl
      have c5:wr.cell? ⟨gU,k*7+5,none⟩=some (.string a5):=hrow 5 _ rfl
      have c6:wr.cell? ⟨gU,k*7+6,none⟩=some (.string a6):=hrow 6 _ rfl
      clear hrow
      by_cases hB:cB s k=true
      · have HJ:=hide (un HYK hB)
        have hor:(nm.toList == s.toList)=true∨((nm.toList == s.toList)=false∧(sy.toList == s.toList)=true):=by
          have h:=(un HSB).symm.trans hB
          cases h1:(nm.toList == s.toList)with
          | true=>exact Or.inl rfl
          | false=>rw[h1]at h;exact Or.inr ⟨rfl,by simpa using h⟩
        clear HNK HYK hB HSB HN
        rcases hor with hn1|⟨hn1,hn2⟩
        all_goals
          go_wp2_with (refine storeT 45 7 info45 rfl (.tmp 2) (.tmp 32) rfl w.heap.size zC #[.string nm,.string sy,.string a2,.string a3,.string a4,.string a5,.string a6] rfl rfl rfl rfl (un HO) (by kernel_rfl) ?_)
          exact bodyPost_ret (v:=.tuple #[.agg #[.string nm,.string sy,.string a2,.string a3,.string a4,.string a5,.string a6],.bool true]) (res45b Tryz.results27 _ _ w.heap.size _ rfl rfl ((un HO).setRow _)) rfl ⟨_,rfl,un HJ,below_setRow (un HB) (Nat.le_refl _) _⟩
      · have hB':cB s k=false:=by simpa using hB
        have HJ:=hide (un HNK hB')
        obtain⟨hn1,hn2⟩:(nm.toList == s.toList)=false∧(sy.toList == s.toList)=false:=by
          have h:=(un HSB).symm.trans hB'
          simpa using h
        clear HNK HYK hB hB' HSB HN
        go_wp2_with fail
        go_roundw
        case rel=>exact⟨k+1,by omega,by go_num,HJ,HO,HC,HB⟩
        case measure=>simp[intOf];omega
    · have hkI:¬(k:Int)<13:=by omega
      go_wp2_with (refine storeT 45 7 info45 rfl (.tmp 2) (.tmp 33) rfl w.heap.size zC zC rfl rfl rfl rfl (un HO) (by kernel_rfl) ?_)
      exact bodyPost_ret (v:=.tuple #[.agg zC,.bool false]) (res45b Tryz.results27 _ _ w.heap.size _ rfl rfl ((un HO).setRow _)) rfl ⟨_,rfl,Or.inr ⟨fun i hi=>un HN i (by omega),rfl⟩,below_setRow (un HB) (Nat.le_refl _) _⟩
end Go.Proofs.YtliadckofhblnaaGreatDoor.Nt

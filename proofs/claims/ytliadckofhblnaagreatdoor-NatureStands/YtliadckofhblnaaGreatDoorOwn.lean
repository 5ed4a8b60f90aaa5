/- Blocks of many cells. -/
import Derived.Test.YtliadckofhblnaaGreatDoorLimb3
import Derived.Test.YtliadckofhblnaaGreatDoorProg
import Derived.WalkKit
import Derived.WalkSpells
import Derived.WalkLawsBesides
import Derived.Handy
import Derived.Deep.RegionWith
import Derived.Laws.Tables
import Derived.Laws.CopyOwn
import Derived.Laws.ResultCell
import Derived.Test.YtliadckofhblnaaGreatDoorCopy
import Derived.Deep.RegionHeld3
set_option maxHeartbeats 2000000
set_option maxRecDepth 100000
namespace Go.Proofs.YtliadckofhblnaaGreatDoor.Dm
open Go.RowKit
theorem zAb {p:Prop} (h:p):Hid p:=h
theorem un {p:Prop} (h:Hid p):p:=h
def okB (x:Int):Bool:=!(decide (x < -99) || decide (99<x))
def rightB (l:List Int):Bool:=l.all okB
theorem okB_lo {x:Int} (h:x < -99):okB x=false:=by simp[okB,h]
theorem zHh {x:Int} (h:x < -99∨99<x):okB x=false:=by rcases h with h|h<;>simp[okB,h]
theorem zFy {x:Int} (h1:-99≤x) (h2:x≤99):okB x=true:=by simp[okB];omega
theorem okB_out {x:Int} (h:okB x=true):-99≤x∧x≤99:=by simp[okB]at h;omega
theorem zAr {l:List Int} (k:Nat) (x:Int) (hk:l[k]?=some x) (h:okB x=false):rightB l=false:=by
 unfold rightB;rw[List.all_eq_false];exact⟨x,List.mem_of_getElem? hk,by simp[h]⟩
theorem rightB_true {l:List Int} (h:∀(j:Nat) (x:Int),l[j]?=some x→okB x=true):rightB l=true:=by
 unfold rightB;rw[List.all_eq_true];intro x hx;obtain⟨j,hj⟩:=List.getElem?_of_mem hx;exact h j x hj
theorem rightB_get {l:List Int} (h:rightB l=true) (j:Nat) (x:Int) (hj:l[j]?=some x):-99≤x∧x≤99:=by
 unfold rightB at h
 rw[List.all_eq_true]at h;exact okB_out (h x (List.mem_of_getElem? hj))
def OkTo (l:List Int) (k:Nat):Prop:=∀j,j<k→∀x,l[j]?=some x→okB x=true
theorem OkTo.zero (l:List Int):OkTo l 0:=fun j h=>absurd h (Nat.not_lt_zero j)
theorem OkTo.step {l:List Int} {k:Nat} (h:OkTo l k) {x:Int} (hk:l[k]?=some x) (hx:okB x=true):OkTo l (k+1):=by
 intro j hj y hy
 by_cases e:j=k
 ·subst e;rw[hk]at hy;cases hy;exact hx
 ·exact h j (by omega) y hy
theorem OkTo.all {l:List Int} {k:Nat} (h:OkTo l k) (hl:l.length≤k):rightB l=true :=
 rightB_true fun j x hj=>h j (by have:=(List.getElem?_eq_some_iff.1 hj).1;omega) x hj
theorem zBs {a b:Bool} (h:a=b):Ending.returned (.bool a)=.returned (.bool b):=by rw[h]
def sel (b:Bool) (x:Int):Int:=if b=true then x else 0
def errOf (b:Bool) (n:Int):Int:=if b=true then 0 else n
theorem sel_true (x:Int):sel true x=x:=rfl
theorem sel_false (x:Int):sel false x=0:=rfl
theorem errOf_true (x:Int):errOf true x=0:=rfl
theorem errOf_false (x:Int):errOf false x=x:=rfl
section
variable (x0 x1 x2 x3 x4 x5 x6 x7:Int)
theorem idx0 (w:World):(Instr.index 26 (.agg #[I x0,I x1,I x2,I x3,I x4,I x5,I x6,I x7]) (I 0)).run Tryz.prog w=.ok (I x0) w:=by kernel_rfl
theorem idx1 (w:World):(Instr.index 26 (.agg #[I x0,I x1,I x2,I x3,I x4,I x5,I x6,I x7]) (I 1)).run Tryz.prog w=.ok (I x1) w:=by kernel_rfl
theorem idx2 (w:World):(Instr.index 26 (.agg #[I x0,I x1,I x2,I x3,I x4,I x5,I x6,I x7]) (I 2)).run Tryz.prog w=.ok (I x2) w:=by kernel_rfl
theorem idx3 (w:World):(Instr.index 26 (.agg #[I x0,I x1,I x2,I x3,I x4,I x5,I x6,I x7]) (I 3)).run Tryz.prog w=.ok (I x3) w:=by kernel_rfl
theorem idx4 (w:World):(Instr.index 26 (.agg #[I x0,I x1,I x2,I x3,I x4,I x5,I x6,I x7]) (I 4)).run Tryz.prog w=.ok (I x4) w:=by kernel_rfl
theorem idx5 (w:World):(Instr.index 26 (.agg #[I x0,I x1,I x2,I x3,I x4,I x5,I x6,I x7]) (I 5)).run Tryz.prog w=.ok (I x5) w:=by kernel_rfl
theorem idx6 (w:World):(Instr.index 26 (.agg #[I x0,I x1,I x2,I x3,I x4,I x5,I x6,I x7]) (I 6)).run Tryz.prog w=.ok (I x6) w:=by kernel_rfl
theorem idx7 (w:World):(Instr.index 26 (.agg #[I x0,I x1,I x2,I x3,I x4,I x5,I x6,I x7]) (I 7)).run Tryz.prog w=.ok (I x7) w:=by kernel_rfl
theorem eight {k:Nat} (h:k≤8):k=0∨k=1∨k=2∨k=3∨k=4∨k=5∨k=6∨k=7∨k=8:=by omega
theorem right_any (w:World):Calls Tryz.prog 170 #[.agg #[I x0,I x1,I x2,I x3,I x4,I x5,I x6,I x7]] w fun e w'=>e=.returned (.bool (rightB [x0,x1,x2,x3,x4,x5,x6,x7]))∧w'=w.alloc (.cells #[I x0,I x1,I x2,I x3,I x4,I x5,I x6,I x7] 26):=by
 have i0:=idx0 x0 x1 x2 x3 x4 x5 x6 x7;have i1:=idx1 x0 x1 x2 x3 x4 x5 x6 x7;have i2:=idx2 x0 x1 x2 x3 x4 x5 x6 x7;have i3:=idx3 x0 x1 x2 x3 x4 x5 x6 x7;have i4:=idx4 x0 x1 x2 x3 x4 x5 x6 x7;have i5:=idx5 x0 x1 x2 x3 x4 x5 x6 x7;have i6:=idx6 x0 x1 x2 x3 x4 x5 x6 x7;have i7:=idx7 x0 x1 x2 x3 x4 x5 x6 x7;generalize hl:[x0,x1,x2,x3,x4,x5,x6,x7]=l;have HL:=zAb hl;clear hl;go_enter Tryz.func170,Tryz.ntmps170
 go_wp2
 go_loop [6] (fun i=>∃k:Nat,k≤8∧i=I k∧OkTo l k) (fun i=>8 - (intOf i).toNat)
 case atStart=>exact⟨0,Nat.zero_le _,rfl,OkTo.zero _⟩
 case round=>
  obtain⟨k,hk,rfl,hto⟩:=hrel;have HO:=zAb hto;clear hto;rcases eight hk with rfl|rfl|rfl|rfl|rfl|rfl|rfl|rfl|rfl
  ·go_wp2
   ·go_ret
    exact⟨zBs (zAr 0 x0 (by rw[←un HL];rfl) (zHh (by omega))).symm,rfl⟩
   ·exact⟨⟨1,by omega,rfl,(un HO).step (by rw[←un HL];rfl) (zFy (x:=x0) (by omega) (by omega))⟩,by simp[intOf]⟩
   ·go_ret
    exact⟨zBs (zAr 0 x0 (by rw[←un HL];rfl) (okB_lo (by omega))).symm,rfl⟩
  ·go_wp2
   ·go_ret
    exact⟨zBs (zAr 1 x1 (by rw[←un HL];rfl) (zHh (by omega))).symm,rfl⟩
   ·exact⟨⟨2,by omega,rfl,(un HO).step (by rw[←un HL];rfl) (zFy (x:=x1) (by omega) (by omega))⟩,by simp[intOf]⟩
   ·go_ret
    exact⟨zBs (zAr 1 x1 (by rw[←un HL];rfl) (okB_lo (by omega))).symm,rfl⟩
  ·go_wp2
   ·go_ret
    exact⟨zBs (zAr 2 x2 (by rw[←un HL];rfl) (zHh (by omega))).symm,rfl⟩
   ·exact⟨⟨3,by omega,rfl,(un HO).step (by rw[←un HL];rfl) (zFy (x:=x2) (by omega) (by omega))⟩,by simp[intOf]⟩
   ·go_ret
    exact⟨zBs (zAr 2 x2 (by rw[←un HL];rfl) (okB_lo (by omega))).symm,rfl⟩
  ·go_wp2
   ·go_ret
    exact⟨zBs (zAr 3 x3 (by rw[←un HL];rfl) (zHh (by omega))).symm,rfl⟩
   ·exact⟨⟨4,by omega,rfl,(un HO).step (by rw[←un HL];rfl) (zFy (x:=x3) (by omega) (by omega))⟩,by simp[intOf]⟩
   ·go_ret
    exact⟨zBs (zAr 3 x3 (by rw[←un HL];rfl) (okB_lo (by omega))).symm,rfl⟩
  ·go_wp2
   ·go_ret
    exact⟨zBs (zAr 4 x4 (by rw[←un HL];rfl) (zHh (by omega))).symm,rfl⟩
   ·exact⟨⟨5,by omega,rfl,(un HO).step (by rw[←un HL];rfl) (zFy (x:=x4) (by omega) (by omega))⟩,by simp[intOf]⟩
   ·go_ret
    exact⟨zBs (zAr 4 x4 (by rw[←un HL];rfl) (okB_lo (by omega))).symm,rfl⟩
  ·go_wp2
   ·go_ret
    exact⟨zBs (zAr 5 x5 (by rw[←un HL];rfl) (zHh (by omega))).symm,rfl⟩
   ·exact⟨⟨6,by omega,rfl,(un HO).step (by rw[←un HL];rfl) (zFy (x:=x5) (by omega) (by omega))⟩,by simp[intOf]⟩
   ·go_ret
    exact⟨zBs (zAr 5 x5 (by rw[←un HL];rfl) (okB_lo (by omega))).symm,rfl⟩
  ·go_wp2
   ·go_ret
    exact⟨zBs (zAr 6 x6 (by rw[←un HL];rfl) (zHh (by omega))).symm,rfl⟩
   ·exact⟨⟨7,by omega,rfl,(un HO).step (by rw[←un HL];rfl) (zFy (x:=x6) (by omega) (by omega))⟩,by simp[intOf]⟩
   ·go_ret
    exact⟨zBs (zAr 6 x6 (by rw[←un HL];rfl) (okB_lo (by omega))).symm,rfl⟩
  ·go_wp2
   ·go_ret
    exact⟨zBs (zAr 7 x7 (by rw[←un HL];rfl) (zHh (by omega))).symm,rfl⟩
   ·exact⟨⟨8,by omega,rfl,(un HO).step (by rw[←un HL];rfl) (zFy (x:=x7) (by omega) (by omega))⟩,by simp[intOf]⟩
   ·go_ret
    exact⟨zBs (zAr 7 x7 (by rw[←un HL];rfl) (okB_lo (by omega))).symm,rfl⟩
  ·go_wp2
   go_ret
   exact⟨zBs ((un HO).all (by rw[←un HL];exact Nat.le_refl 8)).symm,rfl⟩
theorem zGf (w:World):Calls Tryz.prog 179 #[.agg #[I x0,I x1,I x2,I x3,I x4,I x5,I x6,I x7]] w fun e w'=>e=.returned (.tuple #[.agg #[I (sel (rightB [x0,x1,x2,x3,x4,x5,x6,x7]) x0),I (sel (rightB [x0,x1,x2,x3,x4,x5,x6,x7]) x1),I (sel (rightB [x0,x1,x2,x3,x4,x5,x6,x7]) x2),I (sel (rightB [x0,x1,x2,x3,x4,x5,x6,x7]) x3),I (sel (rightB [x0,x1,x2,x3,x4,x5,x6,x7]) x4),I (sel (rightB [x0,x1,x2,x3,x4,x5,x6,x7]) x5),I (sel (rightB [x0,x1,x2,x3,x4,x5,x6,x7]) x6),I (sel (rightB [x0,x1,x2,x3,x4,x5,x6,x7]) x7)],I (errOf (rightB [x0,x1,x2,x3,x4,x5,x6,x7]) 51)])∧w'=((w.alloc (.cells #[I x0,I x1,I x2,I x3,I x4,I x5,I x6,I x7] 26)).alloc (.cells #[I (sel (rightB [x0,x1,x2,x3,x4,x5,x6,x7]) x0),I (sel (rightB [x0,x1,x2,x3,x4,x5,x6,x7]) x1),I (sel (rightB [x0,x1,x2,x3,x4,x5,x6,x7]) x2),I (sel (rightB [x0,x1,x2,x3,x4,x5,x6,x7]) x3),I (sel (rightB [x0,x1,x2,x3,x4,x5,x6,x7]) x4),I (sel (rightB [x0,x1,x2,x3,x4,x5,x6,x7]) x5),I (sel (rightB [x0,x1,x2,x3,x4,x5,x6,x7]) x6),I (sel (rightB [x0,x1,x2,x3,x4,x5,x6,x7]) x7)] 26)).alloc (.cells #[I x0,I x1,I x2,I x3,I x4,I x5,I x6,I x7] 26):=by
 have HC:=zAb (right_any x0 x1 x2 x3 x4 x5 x6 x7);generalize rightB [x0,x1,x2,x3,x4,x5,x6,x7]=r at *
 cases r with
 | true=>
  simp only[sel_true,errOf_true];go_enter Tryz.func179,Tryz.ntmps179
  go_wp2_with (go_at_call 170;refine(un HC _).mono ?_;rintro e w' ⟨rfl,rfl⟩)
  exact bodyPost_ret (v:=.tuple #[.agg #[I x0,I x1,I x2,I x3,I x4,I x5,I x6,I x7],I 0]) (by simp[results,Tryz.results179,go_sem]) rfl ⟨rfl,rfl⟩
 | false=>
  simp only[sel_false,errOf_false];go_enter Tryz.func179,Tryz.ntmps179
  go_wp2_with (go_at_call 170;refine(un HC _).mono ?_;rintro e w' ⟨rfl,rfl⟩)
  exact bodyPost_ret (v:=.tuple #[.agg #[I 0,I 0,I 0,I 0,I 0,I 0,I 0,I 0],I 51]) (by simp[results,Tryz.results179,go_sem]) rfl ⟨rfl,rfl⟩
end
section
variable (a0 a1 a2 a3 a4 a5 a6 a7 b0 b1 b2 b3 b4 b5 b6 b7:Int)
def quoOk (ra rb:Bool) (l:List Int):Bool:=ra && rb && rightB l
def quoErr (ra rb:Bool) (l:List Int):Int:=if (ra && rb)=true then errOf (rightB l) 51 else 1
theorem quo_any (w:World):Calls Tryz.prog 105 #[.agg #[.int .i64 a0,.int .i64 a1,.int .i64 a2,.int .i64 a3,.int .i64 a4,.int .i64 a5,.int .i64 a6,.int .i64 a7],.agg #[.int .i64 b0,.int .i64 b1,.int .i64 b2,.int .i64 b3,.int .i64 b4,.int .i64 b5,.int .i64 b6,.int .i64 b7]] w fun e w'=>e=.returned (.tuple #[.agg #[.int .i64 (sel (quoOk (rightB [a0,a1,a2,a3,a4,a5,a6,a7]) (rightB [b0,b1,b2,b3,b4,b5,b6,b7]) [wrap64 (a0 - b0),wrap64 (a1 - b1),wrap64 (a2 - b2),wrap64 (a3 - b3),wrap64 (a4 - b4),wrap64 (a5 - b5),wrap64 (a6 - b6),wrap64 (a7 - b7)]) (wrap64 (a0 - b0))),.int .i64 (sel (quoOk (rightB [a0,a1,a2,a3,a4,a5,a6,a7]) (rightB [b0,b1,b2,b3,b4,b5,b6,b7]) [wrap64 (a0 - b0),wrap64 (a1 - b1),wrap64 (a2 - b2),wrap64 (a3 - b3),wrap64 (a4 - b4),wrap64 (a5 - b5),wrap64 (a6 - b6),wrap64 (a7 - b7)]) (wrap64 (a1 - b1))),.int .i64 (sel (quoOk (rightB [a0,a1,a2,a3,a4,a5,a6,a7]) (rightB [b0,b1,b2,b3,b4,b5,b6,b7]) [wrap64 (a0 - b0),wrap64 (a1 - b1),wrap64 (a2 - b2),wrap64 (a3 - b3),wrap64 (a4 - b4),wrap64 (a5 - b5),wrap64 (a6 - b6),wrap64 (a7 - b7)]) (wrap64 (a2 - b2))),.int .i64 (sel (quoOk (rightB [a0,a1,a2,a3,a4,a5,a6,a7]) (rightB [b0,b1,b2,b3,b4,b5,b6,b7]) [wrap64 (a0 - b0),wrap64 (a1 - b1),wrap64 (a2 - b2),wrap64 (a3 - b3),wrap64 (a4 - b4),wrap64 (a5 - b5),wrap64 (a6 - b6),wrap64 (a7 - b7)]) (wrap64 (a3 - b3))),.int .i64 (sel (quoOk (rightB [a0,a1,a2,a3,a4,a5,a6,a7]) (rightB [b0,b1,b2,b3,b4,b5,b6,b7]) [wrap64 (a0 - b0),wrap64 (a1 - b1),wrap64 (a2 - b2),wrap64 (a3 - b3),wrap64 (a4 - b4),wrap64 (a5 - b5),wrap64 (a6 - b6),wrap64 (a7 - b7)]) (wrap64 (a4 - b4))),.int .i64 (sel (quoOk (rightB [a0,a1,a2,a3,a4,a5,a6,a7]) (rightB [b0,b1,b2,b3,b4,b5,b6,b7]) [wrap64 (a0 - b0),wrap64 (a1 - b1),wrap64 (a2 - b2),wrap64 (a3 - b3),wrap64 (a4 - b4),wrap64 (a5 - b5),wrap64 (a6 - b6),wrap64 (a7 - b7)]) (wrap64 (a5 - b5))),.int .i64 (sel (quoOk (rightB [a0,a1,a2,a3,a4,a5,a6,a7]) (rightB [b0,b1,b2,b3,b4,b5,b6,b7]) [wrap64 (a0 - b0),wrap64 (a1 - b1),wrap64 (a2 - b2),wrap64 (a3 - b3),wrap64 (a4 - b4),wrap64 (a5 - b5),wrap64 (a6 - b6),wrap64 (a7 - b7)]) (wrap64 (a6 - b6))),.int .i64 (sel (quoOk (rightB [a0,a1,a2,a3,a4,a5,a6,a7]) (rightB [b0,b1,b2,b3,b4,b5,b6,b7]) [wrap64 (a0 - b0),wrap64 (a1 - b1),wrap64 (a2 - b2),wrap64 (a3 - b3),wrap64 (a4 - b4),wrap64 (a5 - b5),wrap64 (a6 - b6),wrap64 (a7 - b7)]) (wrap64 (a7 - b7)))],.int .i64 (quoErr (rightB [a0,a1,a2,a3,a4,a5,a6,a7]) (rightB [b0,b1,b2,b3,b4,b5,b6,b7]) [wrap64 (a0 - b0),wrap64 (a1 - b1),wrap64 (a2 - b2),wrap64 (a3 - b3),wrap64 (a4 - b4),wrap64 (a5 - b5),wrap64 (a6 - b6),wrap64 (a7 - b7)])])∧Below w.heap.size w w':=by
  have HA:=zAb (right_any a0 a1 a2 a3 a4 a5 a6 a7)
  have HB:=zAb (right_any b0 b1 b2 b3 b4 b5 b6 b7)
  have HT:=zAb (zGf (wrap64 (a0 - b0)) (wrap64 (a1 - b1)) (wrap64 (a2 - b2)) (wrap64 (a3 - b3)) (wrap64 (a4 - b4)) (wrap64 (a5 - b5)) (wrap64 (a6 - b6)) (wrap64 (a7 - b7)))
  unfold quoOk quoErr
  generalize rightB [a0,a1,a2,a3,a4,a5,a6,a7]=ra at *
  generalize rightB [b0,b1,b2,b3,b4,b5,b6,b7]=rb at *
  generalize rightB [wrap64 (a0 - b0),wrap64 (a1 - b1),wrap64 (a2 - b2),wrap64 (a3 - b3),wrap64 (a4 - b4),wrap64 (a5 - b5),wrap64 (a6 - b6),wrap64 (a7 - b7)]=rq at *
  cases ra with
  | false=>
    simp only[Bool.false_and,sel_false,Bool.false_eq_true,if_false]
    go_enter Tryz.func105,Tryz.ntmps105
    go_wp2_with (first
      | (go_at_call_of 170 (Value.agg #[Value.int IntKind.i64 a0,Value.int IntKind.i64 a1,Value.int IntKind.i64 a2,Value.int IntKind.i64 a3,Value.int IntKind.i64 a4,Value.int IntKind.i64 a5,Value.int IntKind.i64 a6,Value.int IntKind.i64 a7]);refine(un HA _).mono ?_;rintro e w' ⟨rfl,rfl⟩))
    exact bodyPost_ret (v:=.tuple #[.agg #[.int .i64 0,.int .i64 0,.int .i64 0,.int .i64 0,.int .i64 0,.int .i64 0,.int .i64 0,.int .i64 0],.int .i64 1]) (by simp[results,Tryz.results105,go_sem]) rfl ⟨rfl,((((Below.refl _ _).alloc (Nat.le_refl _) _).alloc (by simp) _).alloc (by simp;omega) _).alloc (by simp;omega) _⟩
  | true=>
    cases rb with
    | false=>
      simp only[Bool.and_false,Bool.false_and,sel_false,Bool.false_eq_true,if_false]
      go_enter Tryz.func105,Tryz.ntmps105
      go_wp2_with (first
        | (go_at_call_of 170 (Value.agg #[Value.int IntKind.i64 a0,Value.int IntKind.i64 a1,Value.int IntKind.i64 a2,Value.int IntKind.i64 a3,Value.int IntKind.i64 a4,Value.int IntKind.i64 a5,Value.int IntKind.i64 a6,Value.int IntKind.i64 a7]);refine(un HA _).mono ?_;rintro e w' ⟨rfl,rfl⟩)
        | (go_at_call_of 170 (Value.agg #[Value.int IntKind.i64 b0,Value.int IntKind.i64 b1,Value.int IntKind.i64 b2,Value.int IntKind.i64 b3,Value.int IntKind.i64 b4,Value.int IntKind.i64 b5,Value.int IntKind.i64 b6,Value.int IntKind.i64 b7]);refine(un HB _).mono ?_;rintro e w' ⟨rfl,rfl⟩))
      exact bodyPost_ret (v:=.tuple #[.agg #[.int .i64 0,.int .i64 0,.int .i64 0,.int .i64 0,.int .i64 0,.int .i64 0,.int .i64 0,.int .i64 0],.int .i64 1]) (by simp[results,Tryz.results105,go_sem]) rfl ⟨rfl,(((((Below.refl _ _).alloc (Nat.le_refl _) _).alloc (by simp) _).alloc (by simp;omega) _).alloc (by simp;omega) _).alloc (by simp;omega) _⟩
    | true=>
      simp only[Bool.and_self,Bool.true_and,if_true]
      have i0:=idx0 b0 b1 b2 b3 b4 b5 b6 b7
      have i1:=idx1 b0 b1 b2 b3 b4 b5 b6 b7
      have i2:=idx2 b0 b1 b2 b3 b4 b5 b6 b7
      have i3:=idx3 b0 b1 b2 b3 b4 b5 b6 b7
      have i4:=idx4 b0 b1 b2 b3 b4 b5 b6 b7
      have i5:=idx5 b0 b1 b2 b3 b4 b5 b6 b7
      have i6:=idx6 b0 b1 b2 b3 b4 b5 b6 b7
      have i7:=idx7 b0 b1 b2 b3 b4 b5 b6 b7
      go_enter Tryz.func105,Tryz.ntmps105
      go_wp2_with (first
        | (go_at_call_of 170 (Value.agg #[Value.int IntKind.i64 a0,Value.int IntKind.i64 a1,Value.int IntKind.i64 a2,Value.int IntKind.i64 a3,Value.int IntKind.i64 a4,Value.int IntKind.i64 a5,Value.int IntKind.i64 a6,Value.int IntKind.i64 a7]);refine(un HA _).mono ?_;rintro e w' ⟨rfl,rfl⟩)
        | (go_at_call_of 170 (Value.agg #[Value.int IntKind.i64 b0,Value.int IntKind.i64 b1,Value.int IntKind.i64 b2,Value.int IntKind.i64 b3,Value.int IntKind.i64 b4,Value.int IntKind.i64 b5,Value.int IntKind.i64 b6,Value.int IntKind.i64 b7]);refine(un HB _).mono ?_;rintro e w' ⟨rfl,rfl⟩))
      refine wp_loop_rounds 9 ?_
      repeat any_goals (rw[rounds_succ];go_wp2_with (go_at_call 179;refine(un HT _).mono ?_;rintro e w' ⟨rfl,rfl⟩))
      exact bodyPost_ret (v:=.tuple #[.agg #[.int .i64 (sel rq (wrap64 (a0 - b0))),.int .i64 (sel rq (wrap64 (a1 - b1))),.int .i64 (sel rq (wrap64 (a2 - b2))),.int .i64 (sel rq (wrap64 (a3 - b3))),.int .i64 (sel rq (wrap64 (a4 - b4))),.int .i64 (sel rq (wrap64 (a5 - b5))),.int .i64 (sel rq (wrap64 (a6 - b6))),.int .i64 (sel rq (wrap64 (a7 - b7)))],.int .i64 (errOf rq 51)]) (by simp[results,Tryz.results105,go_sem]) rfl ⟨rfl,by repeat (first|exact Below.refl _ _|(refine Below.alloc ?_ (by simp<;>omega) _))⟩
end
def cells8 (l:List Int):Array Value:=(l.map fun x=>I x).toArray
def zFr (w:World) (g:Nat) (l:List Int):Prop:=w.heap[g]?=some (.cells (cells8 l) 26 (0,0))
theorem zFr.lt {w:World} {g:Nat} {l:List Int} (h:zFr w g l):g<w.heap.size:=(Array.getElem?_eq_some_iff.1 h).1
theorem zFr.cell {w:World} {g:Nat} {l:List Int} (h:zFr w g l) (i:Nat) (x:Int) (hi:l[i]?=some x):w.cell? ⟨g,i,none⟩=some (I x):=by
 unfold zFr cells8 at h
 simp[World.cell?,h,hi]
theorem zFr.frozen {w:World} {g:Nat} {l:List Int} (h:zFr w g l) (i:Nat):w.frozen? ⟨g,i,none⟩=false:=by
 unfold zFr at h
 simp[World.frozen?,h]
theorem zFr.set {w:World} {g:Nat} {l:List Int} (h:zFr w g l) (i:Nat) (x:Int):zFr (w.setCell ⟨g,i,none⟩ (I x)) g (l.set i x):=by
 unfold zFr cells8 at h ⊢
 simp only[World.setCell,Array.getElem?_modify,h,Option.map_some];simp[List.map_set]
theorem zFr.other {w:World} {g:Nat} {l:List Int} (h:zFr w g l) {a:Addr} (ha:g≠a.block) (x:Value):zFr (w.setCell a x) g l :=
 (Below.heap_setCell w a x g ha).trans h
theorem zFr.alloc {w:World} {g:Nat} {l:List Int} (h:zFr w g l) (o:Obj):zFr (w.alloc o) g l:=(Below.heap_alloc w o g h.lt).trans h
theorem zFr.setRow {w:World} {g:Nat} {l:List Int} (h:zFr w g l) (m:List Int):zFr (w.setRow g (cells8 m)) g m:=setRow_heap w g _ _ 26 (0,0) h
theorem size_alloc (w:World) (o:Obj):(w.alloc o).heap.size=w.heap.size+1:=by simp
theorem zFr.new (w:World) (l:List Int):zFr (w.alloc (.cells (cells8 l) 26)) w.heap.size l:=heap_alloc_new w _
theorem info24:(Tryz.prog.info? 26).map (·.size)=some 8:=by kernel_rfl
theorem ones8 (l:List Int):(cells8 l).all (·.oneCell')=true:=by
 unfold cells8;rw[Array.all_eq_true_iff_forall_mem];intro v hv;simp at hv
 obtain⟨x,_,rfl⟩:=hv
 rfl
theorem size8 (l:List Int):(cells8 l).size=l.length:=by simp[cells8]
theorem res2 {fn:Func} {p u:Tmp} (h:fn.results=#[.cell p 26,.tmp u]) (tmps:Array Value) (w:World) (g:Nat) (l:List Int) (hl:l.length=8)
  (hp:tmps.getD p undef=.pointer (some ⟨g,0,none⟩)) (ho:zFr w g l):(results fn tmps).run Tryz.prog w=.ok (.tuple #[.agg (cells8 l),tmps.getD u undef]) w:=by
 rw[results_cell_tmp h,hp];simp only[asAddr,Sem.run_pure,Result.andThen_ok];rw[run_loadVar_row w g 26 26 (cells8 l) (0,0) _ ho Tryz.underlying26 rfl (by rw[info24,size8,hl])]
 rfl
theorem store8 {ops:Array Oper} {rest:List Oper} {o:Oper} {a:Act} {w:World} {Q:Exit→Act→World→Prop} (hgd:o.guard=none) (x y:Operand) (ho:o.op=.store 26 x y)
  (g:Nat) (l m:List Int) (hl:l.length=8) (hm:m.length=8) (hx:a.eval x=.pointer (some ⟨g,0,none⟩)) (hy:a.eval y=.agg (cells8 m)) (hg:zFr w g l)
  (h:wpList Tryz.prog ops Q rest (a.put o.dst undef) (w.setRow g (cells8 m))):wpList Tryz.prog ops Q (o :: rest) a w :=
 wpList_store_row hgd 26 x y ho g (cells8 m) hx hy 26 _ hg (by rw[info24,size8,hm]) (by rw[size8,size8,hl,hm]) (ones8 m) h
def Dims (w:World) (b o n:Nat) (X:Nat→Nat→Int):Prop:=b<w.heap.size∧∀i,i<n→∀j,j<8→w.cell? ⟨b,o+i*8+j,none⟩=some (I (X i j))
theorem Dims.later {w w':World} {b o n:Nat} {X:Nat→Nat→Int} (h:Dims w b o n X) (hb:Below w.heap.size w w'):Dims w' b o n X:=by
 have:=hb.size;exact⟨by have:=h.1;omega,fun i hi j hj=>(hb.cell (p:=⟨b,o+i*8+j,none⟩) h.1).trans (h.2 i hi j hj)⟩
def dimAt (X:Nat→Nat→Int) (i:Nat):List Int:=[X i 0,X i 1,X i 2,X i 3,X i 4,X i 5,X i 6,X i 7]
def allB (X:Nat→Nat→Int):Nat→Bool
 | 0=>true
 | k+1=>allB X k && rightB (dimAt X k)
def sumD (X:Nat→Nat→Int):Nat→Nat→Int
 | 0,_=>0
 | k+1,j=>wrap64 (sumD X k j+X k j)
def sumL (X:Nat→Nat→Int) (k:Nat):List Int:=[sumD X k 0,sumD X k 1,sumD X k 2,sumD X k 3,sumD X k 4,sumD X k 5,sumD X k 6,sumD X k 7]
theorem allB_false (X:Nat→Nat→Int) (k n:Nat) (h:k<n) (hf:rightB (dimAt X k)=false):allB X n=false:=by
 induction n with
 | zero=>omega
 | succ n ih=>
  unfold allB
  by_cases e:k=n
  ·subst e;rw[hf,Bool.and_false]
  ·rw[ih (by omega),Bool.false_and]
def mulErr (X:Nat→Nat→Int) (n:Nat):Int:=if allB X n=true then errOf (rightB (sumL X n)) 51 else 1
def mixL (X:Nat→Nat→Int) (k j:Nat):List Int:=(sumL X (k+1)).take j ++ (sumL X k).drop j
theorem mixL_get (X:Nat→Nat→Int) (k j:Nat) (h:j<8):(mixL X k j)[j]?=some (sumD X k j):=by
 rcases eight (Nat.le_of_lt h)with rfl|rfl|rfl|rfl|rfl|rfl|rfl|rfl|rfl<;>first|rfl|omega
theorem mixL_set (X:Nat→Nat→Int) (k j:Nat) (h:j<8):(mixL X k j).set j (wrap64 (sumD X k j+X k j))=mixL X k (j+1):=by
 rcases eight (Nat.le_of_lt h)with rfl|rfl|rfl|rfl|rfl|rfl|rfl|rfl|rfl<;>first|rfl|omega
theorem dimAt_get (X:Nat→Nat→Int) (k j:Nat) (h:j<8):(dimAt X k)[j]?=some (X k j):=by
 rcases eight (Nat.le_of_lt h)with rfl|rfl|rfl|rfl|rfl|rfl|rfl|rfl|rfl<;>first|rfl|omega
theorem idxN (x0 x1 x2 x3 x4 x5 x6 x7:Int) (j:Nat) (y:Int) (h:[x0,x1,x2,x3,x4,x5,x6,x7][j]?=some y) (w:World):(Instr.index 26 (.agg #[I x0,I x1,I x2,I x3,I x4,I x5,I x6,I x7]) (I j)).run Tryz.prog w=.ok (I y) w:=by
 have hj:j<8:=(List.getElem?_eq_some_iff.1 h).1;rcases eight (Nat.le_of_lt hj)with rfl|rfl|rfl|rfl|rfl|rfl|rfl|rfl|rfl
 ·cases h;exact idx0 x0 x1 x2 x3 x4 x5 x6 x7 w
 ·cases h;exact idx1 x0 x1 x2 x3 x4 x5 x6 x7 w
 ·cases h;exact idx2 x0 x1 x2 x3 x4 x5 x6 x7 w
 ·cases h;exact idx3 x0 x1 x2 x3 x4 x5 x6 x7 w
 ·cases h;exact idx4 x0 x1 x2 x3 x4 x5 x6 x7 w
 ·cases h;exact idx5 x0 x1 x2 x3 x4 x5 x6 x7 w
 ·cases h;exact idx6 x0 x1 x2 x3 x4 x5 x6 x7 w
 ·cases h;exact idx7 x0 x1 x2 x3 x4 x5 x6 x7 w
 ·omega
theorem mul_any (b o n c:Nat) (X:Nat→Nat→Int) (w:World) (hn:n≤9223372036854775807) (hd:Dims w b o n X):Calls Tryz.prog 175 #[.slice (some ⟨b,o,none⟩) n c] w fun e w'=>e=.returned (.tuple #[.agg #[I (sel (allB X n && rightB (sumL X n)) (sumD X n 0)),I (sel (allB X n && rightB (sumL X n)) (sumD X n 1)),I (sel (allB X n && rightB (sumL X n)) (sumD X n 2)),I (sel (allB X n && rightB (sumL X n)) (sumD X n 3)),I (sel (allB X n && rightB (sumL X n)) (sumD X n 4)),I (sel (allB X n && rightB (sumL X n)) (sumD X n 5)),I (sel (allB X n && rightB (sumL X n)) (sumD X n 6)),I (sel (allB X n && rightB (sumL X n)) (sumD X n 7))],I (mulErr X n)])∧Bw w w':=by
  have HD:=zAb hd;have hbw:=hd.1;clear hd;go_enter Tryz.func175,Tryz.ntmps175
  go_wp2_with fail
  go_loopw [12] (fun i wr=>∃k:Nat,i=I k∧k≤n∧Hid (allB X k=true)∧Hid (zFr wr w.heap.size [0,0,0,0,0,0,0,0])∧Hid (zFr wr (w.heap.size+1) (sumL X k))∧Hid (Bw w wr)) (fun i _=>n - (intOf i).toNat)
  case atStart=>exact⟨0,rfl,Nat.zero_le _,rfl,(zFr.new w [0,0,0,0,0,0,0,0]).alloc _,(by have h:=zFr.new (w.alloc (.cells #[I 0,I 0,I 0,I 0,I 0,I 0,I 0,I 0] 26)) [0,0,0,0,0,0,0,0];rw[size_alloc]at h;exact h),((Below.refl _ _).alloc (Nat.le_refl _) _).alloc (by simp) _⟩
  case round=>
    obtain⟨k,rfl,hk,HA,HR,HP,HB⟩:=hrel
    by_cases hlt:k<n
    · obtain⟨c0,c1,c2,c3,c4,c5,c6,c7⟩:wr.cell? ⟨b,o+k*8,none⟩=some (I (X k 0))∧wr.cell? ⟨b,o+k*8+1,none⟩=some (I (X k 1))∧wr.cell? ⟨b,o+k*8+2,none⟩=some (I (X k 2))∧wr.cell? ⟨b,o+k*8+3,none⟩=some (I (X k 3))∧wr.cell? ⟨b,o+k*8+4,none⟩=some (I (X k 4))∧wr.cell? ⟨b,o+k*8+5,none⟩=some (I (X k 5))∧wr.cell? ⟨b,o+k*8+6,none⟩=some (I (X k 6))∧wr.cell? ⟨b,o+k*8+7,none⟩=some (I (X k 7)):=by
        have h:=((un HD).later (un HB)).2 k hlt;exact⟨h 0 (by omega),h 1 (by omega),h 2 (by omega),h 3 (by omega),h 4 (by omega),h 5 (by omega),h 6 (by omega),h 7 (by omega)⟩
      have HC:=zAb (right_any (X k 0) (X k 1) (X k 2) (X k 3) (X k 4) (X k 5) (X k 6) (X k 7));have hsz:=(un HP).lt;have hsz0:w.heap.size<wr.heap.size:=by omega
      cases hr:rightB [X k 0,X k 1,X k 2,X k 3,X k 4,X k 5,X k 6,X k 7]with
      | false=>
        rw[hr]at HC;have HF:=zAb (allB_false X k n hlt hr);clear hr
        go_wp2_with (first
          | (go_at_call 170;refine(un HC _).mono ?_;rintro e w' ⟨rfl,rfl⟩)
          | (refine store8 rfl (.tmp 2) (.tmp 19) rfl w.heap.size _ [0,0,0,0,0,0,0,0] rfl rfl rfl rfl (((un HR).alloc _).alloc _) ?_))
        refine bodyPost_ret (v:=.tuple #[.agg (cells8 [0,0,0,0,0,0,0,0]),I 1]) (res2 Tryz.results175 _ _ w.heap.size _ rfl rfl ((((un HR).alloc _).alloc _).setRow _)) rfl ⟨?_,?_⟩
        · unfold mulErr;rw[un HF];rfl
        · exact below_setRow (((un HB).alloc (by omega) _).alloc (by simp;omega) _) (Nat.le_refl _) _
      | true=>
        rw[hr]at HC;have HA':Hid (allB X (k+1)=true):=by show allB X (k+1)=true;unfold allB;rw[un HA];exact hr
        clear hr
        go_wp2_with (go_at_call 170;refine(un HC _).mono ?_;rintro e w' ⟨rfl,rfl⟩)
        go_loopw [21] (fun i w2=>∃j:Nat,i=I j∧j≤8∧Hid (zFr w2 (w.heap.size+1) (mixL X k j))∧Hid (zFr w2 w.heap.size [0,0,0,0,0,0,0,0])∧Hid (Bw w w2)) (fun i _=>8 - (intOf i).toNat)
        case atStart=>exact⟨0,rfl,Nat.zero_le _,((un HP).alloc _).alloc _,((un HR).alloc _).alloc _,((un HB).alloc (by omega) _).alloc (by simp;omega) _⟩
        case round=>
          obtain⟨j,rfl,hj,HP2,HR2,HB2⟩:=hrel;clear c0 c1 c2 c3 c4 c5 c6 c7 HC
          by_cases hj8:j<8
          · have hix:=fun w=>idxN (X k 0) (X k 1) (X k 2) (X k 3) (X k 4) (X k 5) (X k 6) (X k 7) j (X k j) (dimAt_get X k j hj8) w
            have hcj:=(un HP2).cell j _ (mixL_get X k j hj8);have hff:=(un HP2).frozen j
            have HP3:Hid (zFr (wr.setCell ⟨w.heap.size+1,j,none⟩ (I (wrap64 (sumD X k j+X k j)))) (w.heap.size+1) (mixL X k (j+1))):=by
              have h:=(un HP2).set j (wrap64 (sumD X k j+X k j));rw[mixL_set X k j hj8]at h;exact h
            have HR3:Hid (zFr (wr.setCell ⟨w.heap.size+1,j,none⟩ (I (wrap64 (sumD X k j+X k j)))) w.heap.size [0,0,0,0,0,0,0,0]):=(un HR2).other (by simp) _;have HB3:Hid (Bw w (wr.setCell ⟨w.heap.size+1,j,none⟩ (I (wrap64 (sumD X k j+X k j))))):=(un HB2).setCell (by simp) _
            go_wp2
            go_roundw
            case rel=>exact⟨j+1,by go_num,by omega,HP3,HR3,HB3⟩
            case measure=>simp[intOf];omega
          · obtain rfl:j=8:=by omega
            have HP3:Hid (zFr wr (w.heap.size+1) (sumL X (k+1))):=un HP2
            go_wp2
            go_roundw
            case rel=>exact⟨k+1,by go_num,by omega,HA',HR2,HP3,HB2⟩
            case measure=>simp[intOf];omega
    · obtain rfl:k=n:=by omega
      obtain⟨p0,p1,p2,p3,p4,p5,p6,p7⟩:wr.cell? ⟨w.heap.size+1,0,none⟩=some (I (sumD X k 0))∧wr.cell? ⟨w.heap.size+1,1,none⟩=some (I (sumD X k 1))∧wr.cell? ⟨w.heap.size+1,2,none⟩=some (I (sumD X k 2))∧wr.cell? ⟨w.heap.size+1,3,none⟩=some (I (sumD X k 3))∧wr.cell? ⟨w.heap.size+1,4,none⟩=some (I (sumD X k 4))∧wr.cell? ⟨w.heap.size+1,5,none⟩=some (I (sumD X k 5))∧wr.cell? ⟨w.heap.size+1,6,none⟩=some (I (sumD X k 6))∧wr.cell? ⟨w.heap.size+1,7,none⟩=some (I (sumD X k 7)):=by
        have h:=(un HP).cell;exact⟨h 0 _ rfl,h 1 _ rfl,h 2 _ rfl,h 3 _ rfl,h 4 _ rfl,h 5 _ rfl,h 6 _ rfl,h 7 _ rfl⟩
      have hsz:=(un HP).lt;have HT:=zAb (zGf (sumD X k 0) (sumD X k 1) (sumD X k 2) (sumD X k 3) (sumD X k 4) (sumD X k 5) (sumD X k 6) (sumD X k 7));have HM:Hid (mulErr X k=errOf (rightB [sumD X k 0,sumD X k 1,sumD X k 2,sumD X k 3,sumD X k 4,sumD X k 5,sumD X k 6,sumD X k 7]) 51):=by show mulErr X k=_;unfold mulErr;rw[un HA];rfl
      have HS:Hid ((allB X k && rightB (sumL X k))=rightB [sumD X k 0,sumD X k 1,sumD X k 2,sumD X k 3,sumD X k 4,sumD X k 5,sumD X k 6,sumD X k 7]):=by show(allB X k && _)=_;rw[un HA];rfl
      generalize rightB [sumD X k 0,sumD X k 1,sumD X k 2,sumD X k 3,sumD X k 4,sumD X k 5,sumD X k 6,sumD X k 7]=rq at HT HM HS
      go_wp2_with (first
          | (go_at_call 179;refine(un HT _).mono ?_;rintro e w' ⟨rfl,rfl⟩)
          | (refine store8 rfl (.tmp 2) (.tmp 35) rfl w.heap.size _ [sel rq (sumD X k 0),sel rq (sumD X k 1),sel rq (sumD X k 2),sel rq (sumD X k 3),sel rq (sumD X k 4),sel rq (sumD X k 5),sel rq (sumD X k 6),sel rq (sumD X k 7)] rfl rfl rfl rfl ((((un HR).alloc _).alloc _).alloc _) ?_))
      refine bodyPost_ret (v:=.tuple #[.agg (cells8 [sel rq (sumD X k 0),sel rq (sumD X k 1),sel rq (sumD X k 2),sel rq (sumD X k 3),sel rq (sumD X k 4),sel rq (sumD X k 5),sel rq (sumD X k 6),sel rq (sumD X k 7)]),I (errOf rq 51)]) (res2 Tryz.results175 _ _ w.heap.size _ rfl rfl (((((un HR).alloc _).alloc _).alloc _).setRow _)) rfl ⟨?_,?_⟩
      · rw[un HM,un HS];rfl
      · exact below_setRow ((((un HB).alloc (by omega) _).alloc (by simp;omega) _).alloc (by simp;omega) _) (Nat.le_refl _) _
end Go.Proofs.YtliadckofhblnaaGreatDoor.Dm
namespace Go.Proofs.YtliadckofhblnaaGreatDoor
open Go.RowKit
structure UB (W:World) (g:Nat) (vs:Array Value):Prop where
 lt:g<W.heap.size
 c:∀i v,vs[i]?=some v→W.cell? ⟨g,i,none⟩=some v
 f:∀i v,vs[i]?=some v→W.frozen? ⟨g,i,none⟩=false
theorem UB.later {W V:World} {g:Nat} {vs:Array Value} (h:UB W g vs) (hb:Below W.heap.size W V):UB V g vs :=
 ⟨Nat.lt_of_lt_of_le h.lt hb.size,fun i v e=>(hb.cell (p:=⟨g,i,none⟩) h.lt).trans (h.c i v e),fun i v e=>(hb.frozen (p:=⟨g,i,none⟩) h.lt).trans (h.f i v e)⟩
def zAc (W:World) (g ty:Nat) (vs:Array Value):Prop:=W.heap[g]?=some (.cells vs ty (0,0))
theorem zAc.lt {W:World} {g ty:Nat} {vs:Array Value} (h:zAc W g ty vs):g<W.heap.size:=(Array.getElem?_eq_some_iff.1 h).1
theorem zAc.ub {W:World} {g ty:Nat} {vs:Array Value} (h:zAc W g ty vs):UB W g vs:=by
 have hl:=h.lt
 unfold zAc at h
 exact⟨hl,fun i v e=>by simp[World.cell?,h,e],fun i v e=>by simp[World.frozen?,h]⟩
theorem zAc.alloc {W:World} {g ty:Nat} {vs:Array Value} (h:zAc W g ty vs) (o:Obj):zAc (W.alloc o) g ty vs:=(Below.heap_alloc W o g h.lt).trans h
theorem zAc.later {W V:World} {g ty:Nat} {vs:Array Value} (h:zAc W g ty vs) (hb:Below W.heap.size W V):zAc V g ty vs:=(hb.block g h.lt).trans h
theorem zAc.new (W:World) (vs:Array Value) (ty:Nat):zAc (W.alloc (.cells vs ty)) W.heap.size ty vs:=heap_alloc_new W _
theorem zAc.setRow {W:World} {g ty:Nat} {vs:Array Value} (h:zAc W g ty vs) (us:Array Value):zAc (W.setRow g us) g ty us:=setRow_heap W g _ _ ty (0,0) h
theorem zAn {ops:Array Oper} {rest:List Oper} {o:Oper} {a:Act} {w:World} {Q:Exit→Act→World→Prop} (ty sz:Nat) (hinfo:(Tryz.prog.info? ty).map (·.size)=some sz) (hgd:o.guard=none) (x y:Operand) (ho:o.op=.store ty x y)
  (g:Nat) (vs us:Array Value) (hv:vs.size=sz) (hu:us.size=sz) (hx:a.eval x=.pointer (some ⟨g,0,none⟩)) (hy:a.eval y=.agg us) (hg:zAc w g ty vs) (h1:us.all (·.oneCell')=true)
  (h:wpList Tryz.prog ops Q rest (a.put o.dst undef) (w.setRow g us)):wpList Tryz.prog ops Q (o :: rest) a w :=
 wpList_store_row hgd ty x y ho g us hx hy ty _ hg (by rw[hinfo,hu]) (by rw[hv,hu]) h1 h
theorem zBb {fn:Func} {p:Tmp} {ty:TypeId} (h:fn.results=#[.cell p ty]) (tmps:Array Value) (P:Program) (w:World) :
  (results fn tmps).run P w=((asAddr (tmps.getD p undef)).run P w).andThen fun a w'=>(loadVar ty a).run P w':=by
 simp[results,h,go_sem]
theorem zAc.c10 {w:World} {g t:Nat} {a b c d e f x y z u:Value} (h:zAc w g t #[a,b,c,d,e,f,x,y,z,u]):C10 w g a b c d e f x y z u:=⟨h.ub.c 0 _ rfl,h.ub.c 1 _ rfl,h.ub.c 2 _ rfl,h.ub.c 3 _ rfl,h.ub.c 4 _ rfl,h.ub.c 5 _ rfl,h.ub.c 6 _ rfl,h.ub.c 7 _ rfl,h.ub.c 8 _ rfl,h.ub.c 9 _ rfl⟩
end Go.Proofs.YtliadckofhblnaaGreatDoor

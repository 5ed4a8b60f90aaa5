/- A unit of temperature: its factor and its offset. -/
import Derived.Test.YtliadckofhblnaaGreatDoorAdd
import Derived.Test.YtliadckofhblnaaGreatDoorGcdFirst
import Derived.Test.YtliadckofhblnaaGreatDoorDimMul
import Derived.Deep.RegionHeld3
import Derived.Laws.Tables
import Derived.Laws.CopyOwn
import Derived.Laws.ResultCell
import Derived.Test.YtliadckofhblnaaGreatDoorReads
set_option maxHeartbeats 4000000
set_option maxRecDepth 100000
namespace Go.Proofs.YtliadckofhblnaaGreatDoor
open Go.RowKit
structure UB (W:World) (g:Nat) (vs:Array Value):Prop where
 lt:g<W.heap.size
 c:∀i v,vs[i]?=some v→W.cell? ⟨g,i,none⟩=some v
 f:∀i v,vs[i]?=some v→W.frozen? ⟨g,i,none⟩=false
theorem UB.later {W V:World} {g:Nat} {vs:Array Value} (h:UB W g vs) (hb:Below W.heap.size W V):UB V g vs :=
 ⟨Nat.lt_of_lt_of_le h.lt hb.size,fun i v e=>(hb.cell (p:=⟨g,i,none⟩) h.lt).trans (h.c i v e),fun i v e=>(hb.frozen (p:=⟨g,i,none⟩) h.lt).trans (h.f i v e)⟩
def zAc (W:World) (g ty:Nat) (vs:Array Value):Prop:=W.heap[g]?=some (.cells vs ty (0,0))
theorem zAc.lt {W:World} {g ty:Nat} {vs:Array Value} (h:zAc W g ty vs):g<W.heap.size:=(Array.getElem?_eq_some_iff.1 h).1
theorem zAc.ub {W:World} {g ty:Nat} {vs:Array Value} (h:zAc W g ty vs):UB W g vs:=by
 have hl:=h.lt
 unfold zAc at h
 exact⟨hl,fun i v e=>by simp[World.cell?,h,e],fun i v e=>by simp[World.frozen?,h]⟩
theorem zAc.alloc {W:World} {g ty:Nat} {vs:Array Value} (h:zAc W g ty vs) (o:Obj):zAc (W.alloc o) g ty vs:=(Below.heap_alloc W o g h.lt).trans h
theorem zAc.later {W V:World} {g ty:Nat} {vs:Array Value} (h:zAc W g ty vs) (hb:Below W.heap.size W V):zAc V g ty vs:=(hb.block g h.lt).trans h
theorem zAc.new (W:World) (vs:Array Value) (ty:Nat):zAc (W.alloc (.cells vs ty)) W.heap.size ty vs:=heap_alloc_new W _
theorem zAc.setRow {W:World} {g ty:Nat} {vs:Array Value} (h:zAc W g ty vs) (us:Array Value):zAc (W.setRow g us) g ty us:=setRow_heap W g _ _ ty (0,0) h
theorem zAn {ops:Array Oper} {rest:List Oper} {o:Oper} {a:Act} {w:World} {Q:Exit→Act→World→Prop} (ty sz:Nat) (hinfo:(Tryz.prog.info? ty).map (·.size)=some sz) (hgd:o.guard=none) (x y:Operand) (ho:o.op=.store ty x y)
  (g:Nat) (vs us:Array Value) (hv:vs.size=sz) (hu:us.size=sz) (hx:a.eval x=.pointer (some ⟨g,0,none⟩)) (hy:a.eval y=.agg us) (hg:zAc w g ty vs) (h1:us.all (·.oneCell')=true)
  (h:wpList Tryz.prog ops Q rest (a.put o.dst undef) (w.setRow g us)):wpList Tryz.prog ops Q (o :: rest) a w :=
 wpList_store_row hgd ty x y ho g us hx hy ty _ hg (by rw[hinfo,hu]) (by rw[hv,hu]) h1 h
theorem zBb {fn:Func} {p:Tmp} {ty:TypeId} (h:fn.results=#[.cell p ty]) (tmps:Array Value) (P:Program) (w:World) :
  (results fn tmps).run P w=((asAddr (tmps.getD p undef)).run P w).andThen fun a w'=>(loadVar ty a).run P w':=by
 simp[results,h,go_sem]
theorem zAc.c10 {w:World} {g t:Nat} {a b c d e f x y z u:Value} (h:zAc w g t #[a,b,c,d,e,f,x,y,z,u]):C10 w g a b c d e f x y z u:=⟨h.ub.c 0 _ rfl,h.ub.c 1 _ rfl,h.ub.c 2 _ rfl,h.ub.c 3 _ rfl,h.ub.c 4 _ rfl,h.ub.c 5 _ rfl,h.ub.c 6 _ rfl,h.ub.c 7 _ rfl,h.ub.c 8 _ rfl,h.ub.c 9 _ rfl⟩
theorem zCv:(Tryz.prog.info? 235).map (·.size)=some 10:=by kernel_rfl
theorem res43 {fn:Func} {p:Tmp} (h:fn.results=#[.cell p 235]) (tmps:Array Value) (w:World) (g:Nat) (vs:Array Value) (hl:vs.size=10) (hp:tmps.getD p undef=.pointer (some ⟨g,0,none⟩)) (ho:zAc w g 235 vs) :
  (results fn tmps).run Tryz.prog w=.ok (.agg vs) w:=by
 rw[zBb h,hp];simp only[asAddr,Sem.run_pure,Result.andThen_ok];rw[run_loadVar_row w g 235 235 vs (0,0) _ ho Tryz.underlying235 rfl (by rw[zCv,hl])]
theorem zDx (a0 a1 a2 a3 a4 a5 a6 a7:Int) (w:World):Calls Tryz.prog 260 #[.agg #[I a0,I a1,I a2,I a3,I a4,I a5,I a6,I a7]] w fun r w'=>r=.returned (.agg (J a0 a1 a2 a3 a4 a5 a6 a7 1 1))∧Bw w w':=by
 go_enter Tryz.func260,Tryz.ntmps260;have HR:Hid (zAc ((w.alloc (.cells #[I a0,I a1,I a2,I a3,I a4,I a5,I a6,I a7] 26)).alloc (.cells (J 0 0 0 0 0 0 0 0 0 0) 235)) (w.heap.size+1) 235 (J 0 0 0 0 0 0 0 0 0 0)):=by have h:=zAc.new (w.alloc (.cells #[I a0,I a1,I a2,I a3,I a4,I a5,I a6,I a7] 26)) (J 0 0 0 0 0 0 0 0 0 0) 235;rw[Dm.size_alloc]at h;exact h
 go_wp2_with (refine zAn 235 10 zCv rfl (.tmp 2) (.tmp 4) rfl (w.heap.size+1) (J 0 0 0 0 0 0 0 0 0 0) (J a0 a1 a2 a3 a4 a5 a6 a7 1 1) rfl rfl rfl rfl (un HR) (by kernel_rfl) ?_)
 refine bodyPost_ret (v:=.agg (J a0 a1 a2 a3 a4 a5 a6 a7 1 1)) (res43 Tryz.results260 _ _ (w.heap.size+1) _ rfl rfl ((un HR).setRow _)) rfl ⟨rfl,below_setRow (bA.alloc (by simp) _) (by omega) _⟩
theorem zEv (n:Int) (w:World):Calls Tryz.prog 261 #[I n] w fun r w'=>r=.returned (.agg (J 0 0 0 0 0 0 0 0 n 1))∧Bw w w':=by
 go_enter Tryz.func261,Tryz.ntmps261;have HR:Hid (zAc (w.alloc (.cells (J 0 0 0 0 0 0 0 0 0 0) 235)) w.heap.size 235 (J 0 0 0 0 0 0 0 0 0 0)):=zAc.new _ _ _
 go_wp2_with (refine zAn 235 10 zCv rfl (.tmp 2) (.tmp 4) rfl w.heap.size (J 0 0 0 0 0 0 0 0 0 0) (J 0 0 0 0 0 0 0 0 n 1) rfl rfl rfl rfl (un HR) (by kernel_rfl) ?_)
 refine bodyPost_ret (v:=.agg (J 0 0 0 0 0 0 0 0 n 1)) (res43 Tryz.results261 _ _ w.heap.size _ rfl rfl ((un HR).setRow _)) rfl ⟨rfl,below_setRow bA (Nat.le_refl _) _⟩
theorem amTimes_any (a0 a1 a2 a3 a4 a5 a6 a7 an ad b0 b1 b2 b3 b4 b5 b6 b7 bn bd c0 c1 c2 c3 c4 c5 c6 c7 e:Int) (w:World)
  (hm:∀W:World,Calls Tryz.prog 175 #[.slice (some ⟨W.heap.size,0,none⟩) 2 2] (W.alloc (.cells #[I a0,I a1,I a2,I a3,I a4,I a5,I a6,I a7,I b0,I b1,I b2,I b3,I b4,I b5,I b6,I b7] 26)) fun r w'=>r=.returned (.tuple #[.agg #[I c0,I c1,I c2,I c3,I c4,I c5,I c6,I c7],I e])∧Below (W.alloc (.cells #[I a0,I a1,I a2,I a3,I a4,I a5,I a6,I a7,I b0,I b1,I b2,I b3,I b4,I b5,I b6,I b7] 26)).heap.size (W.alloc (.cells #[I a0,I a1,I a2,I a3,I a4,I a5,I a6,I a7,I b0,I b1,I b2,I b3,I b4,I b5,I b6,I b7] 26)) w') :
  Calls Tryz.prog 263 #[.agg (J a0 a1 a2 a3 a4 a5 a6 a7 an ad),.agg (J b0 b1 b2 b3 b4 b5 b6 b7 bn bd)] w fun r w'=>r=.returned (.agg (J c0 c1 c2 c3 c4 c5 c6 c7 (wrap64 (an*bn)) (wrap64 (ad*bd))))∧Bw w w':=by
 obtain⟨V,hV⟩:∃V,V=(((w.alloc (.cells (J a0 a1 a2 a3 a4 a5 a6 a7 an ad) 235)).alloc (.cells (J b0 b1 b2 b3 b4 b5 b6 b7 bn bd) 235)).alloc (.cells (J 0 0 0 0 0 0 0 0 0 0) 235)):=⟨_,rfl⟩;have HA:Hid (zAc V w.heap.size 235 (J a0 a1 a2 a3 a4 a5 a6 a7 an ad)):=by rw[hV];exact((zAc.new w (J a0 a1 a2 a3 a4 a5 a6 a7 an ad) 235).alloc _).alloc _
 have HB:Hid (zAc V (w.heap.size+1) 235 (J b0 b1 b2 b3 b4 b5 b6 b7 bn bd)):=by rw[hV];have h:=(zAc.new (w.alloc (.cells (J a0 a1 a2 a3 a4 a5 a6 a7 an ad) 235)) (J b0 b1 b2 b3 b4 b5 b6 b7 bn bd) 235).alloc (.cells (J 0 0 0 0 0 0 0 0 0 0) 235);rw[Dm.size_alloc]at h;exact h
 have HR:Hid (zAc V (w.heap.size+2) 235 (J 0 0 0 0 0 0 0 0 0 0)):=by rw[hV];have h:=zAc.new ((w.alloc (.cells (J a0 a1 a2 a3 a4 a5 a6 a7 an ad) 235)).alloc (.cells (J b0 b1 b2 b3 b4 b5 b6 b7 bn bd) 235)) (J 0 0 0 0 0 0 0 0 0 0) 235;rw[Dm.size_alloc,Dm.size_alloc]at h;exact h
 have HW:Hid (Bw w V):=by rw[hV];exact(bA.alloc (by simp) _).alloc (by simp;omega) _
 have HV:=zAb hV;have HM:=zAb hm;clear hV hm;go_enter Tryz.func263,Tryz.ntmps263
 go_upto_region 1 with fail
 rw[←un HV];clear HV;have x0:V.cell? ⟨w.heap.size,0,none⟩=some (I a0):=(un HA).ub.c 0 _ rfl;have x1:V.cell? ⟨w.heap.size,1,none⟩=some (I a1):=(un HA).ub.c 1 _ rfl;have x2:V.cell? ⟨w.heap.size,2,none⟩=some (I a2):=(un HA).ub.c 2 _ rfl;have x3:V.cell? ⟨w.heap.size,3,none⟩=some (I a3):=(un HA).ub.c 3 _ rfl;have x4:V.cell? ⟨w.heap.size,4,none⟩=some (I a4):=(un HA).ub.c 4 _ rfl;have x5:V.cell? ⟨w.heap.size,5,none⟩=some (I a5):=(un HA).ub.c 5 _ rfl;have x6:V.cell? ⟨w.heap.size,6,none⟩=some (I a6):=(un HA).ub.c 6 _ rfl;have x7:V.cell? ⟨w.heap.size,7,none⟩=some (I a7):=(un HA).ub.c 7 _ rfl;have y0:V.cell? ⟨w.heap.size+1,0,none⟩=some (I b0):=(un HB).ub.c 0 _ rfl;have y1:V.cell? ⟨w.heap.size+1,1,none⟩=some (I b1):=(un HB).ub.c 1 _ rfl;have y2:V.cell? ⟨w.heap.size+1,2,none⟩=some (I b2):=(un HB).ub.c 2 _ rfl;have y3:V.cell? ⟨w.heap.size+1,3,none⟩=some (I b3):=(un HB).ub.c 3 _ rfl;have y4:V.cell? ⟨w.heap.size+1,4,none⟩=some (I b4):=(un HB).ub.c 4 _ rfl;have y5:V.cell? ⟨w.heap.size+1,5,none⟩=some (I b5):=(un HB).ub.c 5 _ rfl;have y6:V.cell? ⟨w.heap.size+1,6,none⟩=some (I b6):=(un HB).ub.c 6 _ rfl;have y7:V.cell? ⟨w.heap.size+1,7,none⟩=some (I b7):=(un HB).ub.c 7 _ rfl
 go_upto_region 2 with (go_at_call 175;go_must(refine(un HM _).mono ?_;rintro e1 w1 ⟨rfl,hb1⟩;have HB1:Hid (Bw V w1):=((Below.refl V.heap.size V).alloc (Nat.le_refl _) _).trans (hb1.mono (by simp));clear hb1 x0 y0 x1 y1 x2 y2 x3 y3 x4 y4 x5 y5 x6 y6 x7 y7))
 have HA1:=zAb ((un HA).later (un HB1));have HBB1:=zAb ((un HB).later (un HB1));have HR1:=zAb ((un HR).later (un HB1));have HW1:=zAb ((un HW).trans ((un HB1).mono (un HW).size));clear HA HB HR HW HB1;have HD:Hid (zAc (w1.alloc (.cells #[I c0,I c1,I c2,I c3,I c4,I c5,I c6,I c7] 26)) w1.heap.size 26 #[I c0,I c1,I c2,I c3,I c4,I c5,I c6,I c7]):=zAc.new _ _ _;have hal:Below w1.heap.size w1 (w1.alloc (.cells #[I c0,I c1,I c2,I c3,I c4,I c5,I c6,I c7] 26)):=bA;have HA2:=zAb ((un HA1).later hal);have HB2:=zAb ((un HBB1).later hal);have HR2:=zAb ((un HR1).later hal);have HW2:=zAb (bt HW1 hal);obtain⟨g5,hg5⟩:∃g5,g5=w1.heap.size:=⟨_,rfl⟩;rw[←hg5]at HD ⊢;clear hal hg5 HA1 HBB1 HR1 HW1;generalize w1.alloc (.cells #[I c0,I c1,I c2,I c3,I c4,I c5,I c6,I c7] 26)=U at *
 have z0:U.cell? ⟨g5,0,none⟩=some (I c0):=(un HD).ub.c 0 _ rfl;have z1:U.cell? ⟨g5,1,none⟩=some (I c1):=(un HD).ub.c 1 _ rfl;have z2:U.cell? ⟨g5,2,none⟩=some (I c2):=(un HD).ub.c 2 _ rfl;have z3:U.cell? ⟨g5,3,none⟩=some (I c3):=(un HD).ub.c 3 _ rfl;have z4:U.cell? ⟨g5,4,none⟩=some (I c4):=(un HD).ub.c 4 _ rfl;have z5:U.cell? ⟨g5,5,none⟩=some (I c5):=(un HD).ub.c 5 _ rfl;have z6:U.cell? ⟨g5,6,none⟩=some (I c6):=(un HD).ub.c 6 _ rfl;have z7:U.cell? ⟨g5,7,none⟩=some (I c7):=(un HD).ub.c 7 _ rfl;have x8:U.cell? ⟨w.heap.size,8,none⟩=some (I an):=(un HA2).ub.c 8 _ rfl;have x9:U.cell? ⟨w.heap.size,9,none⟩=some (I ad):=(un HA2).ub.c 9 _ rfl;have y8:U.cell? ⟨w.heap.size+1,8,none⟩=some (I bn):=(un HB2).ub.c 8 _ rfl;have y9:U.cell? ⟨w.heap.size+1,9,none⟩=some (I bd):=(un HB2).ub.c 9 _ rfl
 go_wp2_with (refine zAn 235 10 zCv rfl (.tmp 4) (.tmp 27) rfl (w.heap.size+2) (J 0 0 0 0 0 0 0 0 0 0) (J c0 c1 c2 c3 c4 c5 c6 c7 (wrap64 (an*bn)) (wrap64 (ad*bd))) rfl rfl rfl rfl (un HR2) (by kernel_rfl) ?_)
 refine bodyPost_ret (v:=.agg (J c0 c1 c2 c3 c4 c5 c6 c7 (wrap64 (an*bn)) (wrap64 (ad*bd)))) (res43 Tryz.results263 _ _ (w.heap.size+2) _ rfl rfl ((un HR2).setRow _)) rfl ⟨rfl,below_setRow (un HW2) (by omega) _⟩
theorem amBy_any (a0 a1 a2 a3 a4 a5 a6 a7 an ad b0 b1 b2 b3 b4 b5 b6 b7 bn bd c0 c1 c2 c3 c4 c5 c6 c7 e:Int) (w:World)
  (hm:∀W,Calls Tryz.prog 105 #[.agg #[I a0,I a1,I a2,I a3,I a4,I a5,I a6,I a7],.agg #[I b0,I b1,I b2,I b3,I b4,I b5,I b6,I b7]] W fun r w'=>r=.returned (.tuple #[.agg #[I c0,I c1,I c2,I c3,I c4,I c5,I c6,I c7],I e])∧Bw W w') :
  Calls Tryz.prog 262 #[.agg (J a0 a1 a2 a3 a4 a5 a6 a7 an ad),.agg (J b0 b1 b2 b3 b4 b5 b6 b7 bn bd)] w fun r w'=>r=.returned (.agg (J c0 c1 c2 c3 c4 c5 c6 c7 (wrap64 (an*bd)) (wrap64 (ad*bn))))∧Bw w w':=by
 obtain⟨V,hV⟩:∃V,V=(((w.alloc (.cells (J a0 a1 a2 a3 a4 a5 a6 a7 an ad) 235)).alloc (.cells (J b0 b1 b2 b3 b4 b5 b6 b7 bn bd) 235)).alloc (.cells (J 0 0 0 0 0 0 0 0 0 0) 235)):=⟨_,rfl⟩;have HA:Hid (zAc V w.heap.size 235 (J a0 a1 a2 a3 a4 a5 a6 a7 an ad)):=by rw[hV];exact((zAc.new w (J a0 a1 a2 a3 a4 a5 a6 a7 an ad) 235).alloc _).alloc _
 have HB:Hid (zAc V (w.heap.size+1) 235 (J b0 b1 b2 b3 b4 b5 b6 b7 bn bd)):=by rw[hV];have h:=(zAc.new (w.alloc (.cells (J a0 a1 a2 a3 a4 a5 a6 a7 an ad) 235)) (J b0 b1 b2 b3 b4 b5 b6 b7 bn bd) 235).alloc (.cells (J 0 0 0 0 0 0 0 0 0 0) 235);rw[Dm.size_alloc]at h;exact h
 have HR:Hid (zAc V (w.heap.size+2) 235 (J 0 0 0 0 0 0 0 0 0 0)):=by rw[hV];have h:=zAc.new ((w.alloc (.cells (J a0 a1 a2 a3 a4 a5 a6 a7 an ad) 235)).alloc (.cells (J b0 b1 b2 b3 b4 b5 b6 b7 bn bd) 235)) (J 0 0 0 0 0 0 0 0 0 0) 235;rw[Dm.size_alloc,Dm.size_alloc]at h;exact h
 have HW:Hid (Bw w V):=by rw[hV];exact(bA.alloc (by simp) _).alloc (by simp;omega) _
 have HV:=zAb hV;have HM:=zAb hm;clear hV hm;go_enter Tryz.func262,Tryz.ntmps262
 go_upto_region 1 with fail
 rw[←un HV];clear HV;have x0:V.cell? ⟨w.heap.size,0,none⟩=some (I a0):=(un HA).ub.c 0 _ rfl;have x1:V.cell? ⟨w.heap.size,1,none⟩=some (I a1):=(un HA).ub.c 1 _ rfl;have x2:V.cell? ⟨w.heap.size,2,none⟩=some (I a2):=(un HA).ub.c 2 _ rfl;have x3:V.cell? ⟨w.heap.size,3,none⟩=some (I a3):=(un HA).ub.c 3 _ rfl;have x4:V.cell? ⟨w.heap.size,4,none⟩=some (I a4):=(un HA).ub.c 4 _ rfl;have x5:V.cell? ⟨w.heap.size,5,none⟩=some (I a5):=(un HA).ub.c 5 _ rfl;have x6:V.cell? ⟨w.heap.size,6,none⟩=some (I a6):=(un HA).ub.c 6 _ rfl;have x7:V.cell? ⟨w.heap.size,7,none⟩=some (I a7):=(un HA).ub.c 7 _ rfl;have y0:V.cell? ⟨w.heap.size+1,0,none⟩=some (I b0):=(un HB).ub.c 0 _ rfl;have y1:V.cell? ⟨w.heap.size+1,1,none⟩=some (I b1):=(un HB).ub.c 1 _ rfl;have y2:V.cell? ⟨w.heap.size+1,2,none⟩=some (I b2):=(un HB).ub.c 2 _ rfl;have y3:V.cell? ⟨w.heap.size+1,3,none⟩=some (I b3):=(un HB).ub.c 3 _ rfl;have y4:V.cell? ⟨w.heap.size+1,4,none⟩=some (I b4):=(un HB).ub.c 4 _ rfl;have y5:V.cell? ⟨w.heap.size+1,5,none⟩=some (I b5):=(un HB).ub.c 5 _ rfl;have y6:V.cell? ⟨w.heap.size+1,6,none⟩=some (I b6):=(un HB).ub.c 6 _ rfl;have y7:V.cell? ⟨w.heap.size+1,7,none⟩=some (I b7):=(un HB).ub.c 7 _ rfl
 go_upto_region 2 with (go_at_call 105;go_must(refine(un HM _).mono ?_;rintro e1 w1 ⟨rfl,hb1⟩;have HB1:=zAb hb1;clear hb1 x0 y0 x1 y1 x2 y2 x3 y3 x4 y4 x5 y5 x6 y6 x7 y7))
 have HA1:=zAb ((un HA).later (un HB1));have HBB1:=zAb ((un HB).later (un HB1));have HR1:=zAb ((un HR).later (un HB1));have HW1:=zAb ((un HW).trans ((un HB1).mono (un HW).size));clear HA HB HR HW HB1;have HD:Hid (zAc (w1.alloc (.cells #[I c0,I c1,I c2,I c3,I c4,I c5,I c6,I c7] 26)) w1.heap.size 26 #[I c0,I c1,I c2,I c3,I c4,I c5,I c6,I c7]):=zAc.new _ _ _;have hal:Below w1.heap.size w1 (w1.alloc (.cells #[I c0,I c1,I c2,I c3,I c4,I c5,I c6,I c7] 26)):=bA;have HA2:=zAb ((un HA1).later hal);have HB2:=zAb ((un HBB1).later hal);have HR2:=zAb ((un HR1).later hal);have HW2:=zAb (bt HW1 hal);obtain⟨g5,hg5⟩:∃g5,g5=w1.heap.size:=⟨_,rfl⟩;rw[←hg5]at HD ⊢;clear hal hg5 HA1 HBB1 HR1 HW1;generalize w1.alloc (.cells #[I c0,I c1,I c2,I c3,I c4,I c5,I c6,I c7] 26)=U at *
 have z0:U.cell? ⟨g5,0,none⟩=some (I c0):=(un HD).ub.c 0 _ rfl;have z1:U.cell? ⟨g5,1,none⟩=some (I c1):=(un HD).ub.c 1 _ rfl;have z2:U.cell? ⟨g5,2,none⟩=some (I c2):=(un HD).ub.c 2 _ rfl;have z3:U.cell? ⟨g5,3,none⟩=some (I c3):=(un HD).ub.c 3 _ rfl;have z4:U.cell? ⟨g5,4,none⟩=some (I c4):=(un HD).ub.c 4 _ rfl;have z5:U.cell? ⟨g5,5,none⟩=some (I c5):=(un HD).ub.c 5 _ rfl;have z6:U.cell? ⟨g5,6,none⟩=some (I c6):=(un HD).ub.c 6 _ rfl;have z7:U.cell? ⟨g5,7,none⟩=some (I c7):=(un HD).ub.c 7 _ rfl;have x8:U.cell? ⟨w.heap.size,8,none⟩=some (I an):=(un HA2).ub.c 8 _ rfl;have x9:U.cell? ⟨w.heap.size,9,none⟩=some (I ad):=(un HA2).ub.c 9 _ rfl;have y8:U.cell? ⟨w.heap.size+1,8,none⟩=some (I bn):=(un HB2).ub.c 8 _ rfl;have y9:U.cell? ⟨w.heap.size+1,9,none⟩=some (I bd):=(un HB2).ub.c 9 _ rfl
 go_wp2_with (refine zAn 235 10 zCv rfl (.tmp 4) (.tmp 26) rfl (w.heap.size+2) (J 0 0 0 0 0 0 0 0 0 0) (J c0 c1 c2 c3 c4 c5 c6 c7 (wrap64 (an*bd)) (wrap64 (ad*bn))) rfl rfl rfl rfl (un HR2) (by kernel_rfl) ?_)
 refine bodyPost_ret (v:=.agg (J c0 c1 c2 c3 c4 c5 c6 c7 (wrap64 (an*bd)) (wrap64 (ad*bn)))) (res43 Tryz.results262 _ _ (w.heap.size+2) _ rfl rfl ((un HR2).setRow _)) rfl ⟨rfl,below_setRow (un HW2) (by omega) _⟩
def X2 (l:List Int) (i j:Nat):Int:=l.getD (i*8+j) 0
theorem dims_new (W:World) (a0 a1 a2 a3 a4 a5 a6 a7 b0 b1 b2 b3 b4 b5 b6 b7:Int):Dm.Dims (W.alloc (.cells #[I a0,I a1,I a2,I a3,I a4,I a5,I a6,I a7,I b0,I b1,I b2,I b3,I b4,I b5,I b6,I b7] 26)) W.heap.size 0 2 (X2 [a0,a1,a2,a3,a4,a5,a6,a7,b0,b1,b2,b3,b4,b5,b6,b7]):=by
 refine⟨by simp,fun i hi j hj=>?_⟩;have h:=(zAc.new W #[I a0,I a1,I a2,I a3,I a4,I a5,I a6,I a7,I b0,I b1,I b2,I b3,I b4,I b5,I b6,I b7] 26).ub.c (0+i*8+j);refine h _ ?_;rcases(by omega:i=0∨i=1)with rfl|rfl<;>rcases(by omega:j=0∨j=1∨j=2∨j=3∨j=4∨j=5∨j=6∨j=7)with rfl|rfl|rfl|rfl|rfl|rfl|rfl|rfl<;>rfl
def mulL (l:List Int):List Int:=[Dm.sel (Dm.allB (X2 l) 2 && Dm.rightB (Dm.sumL (X2 l) 2)) (Dm.sumD (X2 l) 2 0),Dm.sel (Dm.allB (X2 l) 2 && Dm.rightB (Dm.sumL (X2 l) 2)) (Dm.sumD (X2 l) 2 1),Dm.sel (Dm.allB (X2 l) 2 && Dm.rightB (Dm.sumL (X2 l) 2)) (Dm.sumD (X2 l) 2 2),Dm.sel (Dm.allB (X2 l) 2 && Dm.rightB (Dm.sumL (X2 l) 2)) (Dm.sumD (X2 l) 2 3),Dm.sel (Dm.allB (X2 l) 2 && Dm.rightB (Dm.sumL (X2 l) 2)) (Dm.sumD (X2 l) 2 4),Dm.sel (Dm.allB (X2 l) 2 && Dm.rightB (Dm.sumL (X2 l) 2)) (Dm.sumD (X2 l) 2 5),Dm.sel (Dm.allB (X2 l) 2 && Dm.rightB (Dm.sumL (X2 l) 2)) (Dm.sumD (X2 l) 2 6),Dm.sel (Dm.allB (X2 l) 2 && Dm.rightB (Dm.sumL (X2 l) 2)) (Dm.sumD (X2 l) 2 7)]
def quoL (a b q:List Int):List Int:=q.map (Dm.sel (Dm.quoOk (Dm.rightB a) (Dm.rightB b) q))
theorem zDf (a0 a1 a2 a3 a4 a5 a6 a7 an ad b0 b1 b2 b3 b4 b5 b6 b7 bn bd c0 c1 c2 c3 c4 c5 c6 c7 p q:Int) (w:World) (h:mulL [a0,a1,a2,a3,a4,a5,a6,a7,b0,b1,b2,b3,b4,b5,b6,b7]=[c0,c1,c2,c3,c4,c5,c6,c7]) (hp:wrap64 (an*bn)=p) (hq:wrap64 (ad*bd)=q) :
  Calls Tryz.prog 263 #[.agg (J a0 a1 a2 a3 a4 a5 a6 a7 an ad),.agg (J b0 b1 b2 b3 b4 b5 b6 b7 bn bd)] w fun r w'=>r=.returned (.agg (J c0 c1 c2 c3 c4 c5 c6 c7 p q))∧Bw w w':=by
 subst hp hq;unfold mulL at h
 simp only[List.cons.injEq,and_true]at h;obtain⟨rfl,rfl,rfl,rfl,rfl,rfl,rfl,rfl⟩:=h;exact amTimes_any a0 a1 a2 a3 a4 a5 a6 a7 an ad b0 b1 b2 b3 b4 b5 b6 b7 bn bd _ _ _ _ _ _ _ _ _ w (fun W=>Dm.mul_any W.heap.size 0 2 2 (X2 [a0,a1,a2,a3,a4,a5,a6,a7,b0,b1,b2,b3,b4,b5,b6,b7]) _ (by decide) (dims_new W a0 a1 a2 a3 a4 a5 a6 a7 b0 b1 b2 b3 b4 b5 b6 b7))
theorem zFm (a0 a1 a2 a3 a4 a5 a6 a7 an ad b0 b1 b2 b3 b4 b5 b6 b7 bn bd c0 c1 c2 c3 c4 c5 c6 c7 p q:Int) (w:World) (h:quoL [a0,a1,a2,a3,a4,a5,a6,a7] [b0,b1,b2,b3,b4,b5,b6,b7] [wrap64 (a0 - b0),wrap64 (a1 - b1),wrap64 (a2 - b2),wrap64 (a3 - b3),wrap64 (a4 - b4),wrap64 (a5 - b5),wrap64 (a6 - b6),wrap64 (a7 - b7)]=[c0,c1,c2,c3,c4,c5,c6,c7]) (hp:wrap64 (an*bd)=p) (hq:wrap64 (ad*bn)=q) :
  Calls Tryz.prog 262 #[.agg (J a0 a1 a2 a3 a4 a5 a6 a7 an ad),.agg (J b0 b1 b2 b3 b4 b5 b6 b7 bn bd)] w fun r w'=>r=.returned (.agg (J c0 c1 c2 c3 c4 c5 c6 c7 p q))∧Bw w w':=by
 subst hp hq;unfold quoL at h
 simp only[List.map_cons,List.map_nil,List.cons.injEq,and_true]at h;obtain⟨rfl,rfl,rfl,rfl,rfl,rfl,rfl,rfl⟩:=h;exact amBy_any a0 a1 a2 a3 a4 a5 a6 a7 an ad b0 b1 b2 b3 b4 b5 b6 b7 bn bd _ _ _ _ _ _ _ _ _ w (fun W=>Dm.quo_any a0 a1 a2 a3 a4 a5 a6 a7 b0 b1 b2 b3 b4 b5 b6 b7 W)
theorem zAc.set {W:World} {g ty:Nat} {vs:Array Value} (h:zAc W g ty vs) (i:Nat) (v:Value):zAc (W.setCell ⟨g,i,none⟩ v) g ty (vs.setIfInBounds i v):=by
 unfold zAc at h ⊢
 simp only[World.setCell,Array.getElem?_modify,h,Option.map_some];simp
theorem zAc.otherSet {W:World} {g k ty:Nat} {vs:Array Value} (h:zAc W g ty vs) (hk:¬g=k) (o:Nat) (v:Value):zAc (W.setCell ⟨k,o,none⟩ v) g ty vs:=(Below.heap_setCell W ⟨k,o,none⟩ v g hk).trans h
theorem zCs {U W V:World} {O:Obj} (h:Below U.heap.size U W) (hb:Below (W.alloc O).heap.size (W.alloc O) V):Below U.heap.size U V :=
 (h.alloc h.size O).trans (hb.mono (h.alloc h.size O).size)
theorem zBw {W V:World} {O:Obj} (hb:Below (W.alloc O).drew.heap.size (W.alloc O).drew V):Below W.heap.size W V :=
 have h0:=(Below.refl W.heap.size W).alloc (Nat.le_refl _) O;have h:Below W.heap.size W (W.alloc O).drew:=h0.trans ((Below.refl _ _).drew.mono h0.size)
 h.trans (hb.mono h.size)
theorem bit_made (w:World):Calls Tryz.prog 218 #[] w fun r w'=>r=.returned (.agg (J 0 0 0 0 0 0 0 1 1 1))∧Bw w w':=by
 obtain⟨V,hV⟩:∃V,V=w.alloc (.cells (J 0 0 0 0 0 0 0 0 0 0) 235):=⟨_,rfl⟩;have HR:Hid (zAc V w.heap.size 235 (J 0 0 0 0 0 0 0 0 0 0)):=by rw[hV];exact zAc.new _ _ _
 have HB:Hid (Bw w V):=by rw[hV];exact bA
 have HV:=zAb hV;clear hV;go_enter Tryz.func218,Tryz.ntmps218
 go_upto_region 1 with fail
 rw[←un HV];clear HV
 go_wp2_with fail
 refine(zDx 0 0 0 0 0 0 0 1 _).mono ?_;rintro e W ⟨rfl,hb⟩;have HR1:=zAb ((un HR).later hb);have HB1:=zAb (bt HB hb);clear HR HB hb;have HR:=HR1;have HB:=HB1;clear HR1 HB1
 go_wp2_with (refine zAn 235 10 zCv rfl (.tmp 0) (.tmp 2) rfl w.heap.size (J 0 0 0 0 0 0 0 0 0 0) (J 0 0 0 0 0 0 0 1 1 1) rfl rfl rfl rfl (un HR) (by kernel_rfl) ?_)
 exact bodyPost_ret (v:=.agg (J 0 0 0 0 0 0 0 1 1 1)) (res43 Tryz.results218 _ _ w.heap.size _ rfl rfl ((un HR).setRow _)) rfl ⟨rfl,below_setRow (un HB) (Nat.le_refl _) _⟩
theorem mole_made (w:World):Calls Tryz.prog 219 #[] w fun r w'=>r=.returned (.agg (J 0 0 0 0 0 1 0 0 1 1))∧Bw w w':=by
 obtain⟨V,hV⟩:∃V,V=w.alloc (.cells (J 0 0 0 0 0 0 0 0 0 0) 235):=⟨_,rfl⟩;have HR:Hid (zAc V w.heap.size 235 (J 0 0 0 0 0 0 0 0 0 0)):=by rw[hV];exact zAc.new _ _ _
 have HB:Hid (Bw w V):=by rw[hV];exact bA
 have HV:=zAb hV;clear hV;go_enter Tryz.func219,Tryz.ntmps219
 go_upto_region 1 with fail
 rw[←un HV];clear HV
 go_wp2_with fail
 refine(zEv 1 _).mono ?_;rintro e W ⟨rfl,hb⟩;have HR1:=zAb ((un HR).later hb);have HB1:=zAb (bt HB hb);clear HR HB hb;have HR:=HR1;have HB:=HB1;clear HR1 HB1
 go_wp2_with fail
 refine(zDx 0 0 0 0 0 (-1) 0 0 _).mono ?_;rintro e W ⟨rfl,hb⟩;have HR1:=zAb ((un HR).later hb);have HB1:=zAb (bt HB hb);clear HR HB hb;have HR:=HR1;have HB:=HB1;clear HR1 HB1
 go_wp2_with fail
 refine(zFm 0 0 0 0 0 0 0 0 1 1 0 0 0 0 0 (-1) 0 0 1 1 0 0 0 0 0 1 0 0 1 1 _ (by decide +kernel) (by decide +kernel) (by decide +kernel)).mono ?_;rintro e W ⟨rfl,hb⟩;have HR1:=zAb ((un HR).later hb);have HB1:=zAb (bt HB hb);clear HR HB hb;have HR:=HR1;have HB:=HB1;clear HR1 HB1
 go_wp2_with (refine zAn 235 10 zCv rfl (.tmp 0) (.tmp 4) rfl w.heap.size (J 0 0 0 0 0 0 0 0 0 0) (J 0 0 0 0 0 1 0 0 1 1) rfl rfl rfl rfl (un HR) (by kernel_rfl) ?_)
 exact bodyPost_ret (v:=.agg (J 0 0 0 0 0 1 0 0 1 1)) (res43 Tryz.results219 _ _ w.heap.size _ rfl rfl ((un HR).setRow _)) rfl ⟨rfl,below_setRow (un HB) (Nat.le_refl _) _⟩
theorem zCy (w:World):Calls Tryz.prog 220 #[] w fun r w'=>r=.returned (.agg (J 0 0 1 0 0 0 0 0 1 1))∧Bw w w':=by
 obtain⟨V,hV⟩:∃V,V=w.alloc (.cells (J 0 0 0 0 0 0 0 0 0 0) 235):=⟨_,rfl⟩;have HR:Hid (zAc V w.heap.size 235 (J 0 0 0 0 0 0 0 0 0 0)):=by rw[hV];exact zAc.new _ _ _
 have HB:Hid (Bw w V):=by rw[hV];exact bA
 have HV:=zAb hV;clear hV;go_enter Tryz.func220,Tryz.ntmps220
 go_upto_region 1 with fail
 rw[←un HV];clear HV
 go_wp2_with fail
 refine(zEv 1 _).mono ?_;rintro e W ⟨rfl,hb⟩;have HR1:=zAb ((un HR).later hb);have HB1:=zAb (bt HB hb);clear HR HB hb;have HR:=HR1;have HB:=HB1;clear HR1 HB1
 go_wp2_with fail
 refine(zDx 0 0 (-1) 0 0 0 0 0 _).mono ?_;rintro e W ⟨rfl,hb⟩;have HR1:=zAb ((un HR).later hb);have HB1:=zAb (bt HB hb);clear HR HB hb;have HR:=HR1;have HB:=HB1;clear HR1 HB1
 go_wp2_with fail
 refine(zFm 0 0 0 0 0 0 0 0 1 1 0 0 (-1) 0 0 0 0 0 1 1 0 0 1 0 0 0 0 0 1 1 _ (by decide +kernel) (by decide +kernel) (by decide +kernel)).mono ?_;rintro e W ⟨rfl,hb⟩;have HR1:=zAb ((un HR).later hb);have HB1:=zAb (bt HB hb);clear HR HB hb;have HR:=HR1;have HB:=HB1;clear HR1 HB1
 go_wp2_with (refine zAn 235 10 zCv rfl (.tmp 0) (.tmp 4) rfl w.heap.size (J 0 0 0 0 0 0 0 0 0 0) (J 0 0 1 0 0 0 0 0 1 1) rfl rfl rfl rfl (un HR) (by kernel_rfl) ?_)
 exact bodyPost_ret (v:=.agg (J 0 0 1 0 0 0 0 0 1 1)) (res43 Tryz.results220 _ _ w.heap.size _ rfl rfl ((un HR).setRow _)) rfl ⟨rfl,below_setRow (un HB) (Nat.le_refl _) _⟩
theorem ampere_made (w:World):Calls Tryz.prog 221 #[] w fun r w'=>r=.returned (.agg (J 0 0 0 1 0 0 0 0 1 1))∧Bw w w':=by
 obtain⟨V,hV⟩:∃V,V=w.alloc (.cells (J 0 0 0 0 0 0 0 0 0 0) 235):=⟨_,rfl⟩;have HR:Hid (zAc V w.heap.size 235 (J 0 0 0 0 0 0 0 0 0 0)):=by rw[hV];exact zAc.new _ _ _
 have HB:Hid (Bw w V):=by rw[hV];exact bA
 have HV:=zAb hV;clear hV;go_enter Tryz.func221,Tryz.ntmps221
 go_upto_region 1 with fail
 rw[←un HV];clear HV
 go_wp2_with fail
 refine(zDx 0 0 1 1 0 0 0 0 _).mono ?_;rintro e W ⟨rfl,hb⟩;have HR1:=zAb ((un HR).later hb);have HB1:=zAb (bt HB hb);clear HR HB hb;have HR:=HR1;have HB:=HB1;clear HR1 HB1
 go_wp2_with fail
 refine(zCy _).mono ?_;rintro e W ⟨rfl,hb⟩;have HR1:=zAb ((un HR).later hb);have HB1:=zAb (bt HB hb);clear HR HB hb;have HR:=HR1;have HB:=HB1;clear HR1 HB1
 go_wp2_with fail
 refine(zFm 0 0 1 1 0 0 0 0 1 1 0 0 1 0 0 0 0 0 1 1 0 0 0 1 0 0 0 0 1 1 _ (by decide +kernel) (by decide +kernel) (by decide +kernel)).mono ?_;rintro e W ⟨rfl,hb⟩;have HR1:=zAb ((un HR).later hb);have HB1:=zAb (bt HB hb);clear HR HB hb;have HR:=HR1;have HB:=HB1;clear HR1 HB1
 go_wp2_with (refine zAn 235 10 zCv rfl (.tmp 0) (.tmp 4) rfl w.heap.size (J 0 0 0 0 0 0 0 0 0 0) (J 0 0 0 1 0 0 0 0 1 1) rfl rfl rfl rfl (un HR) (by kernel_rfl) ?_)
 exact bodyPost_ret (v:=.agg (J 0 0 0 1 0 0 0 0 1 1)) (res43 Tryz.results221 _ _ w.heap.size _ rfl rfl ((un HR).setRow _)) rfl ⟨rfl,below_setRow (un HB) (Nat.le_refl _) _⟩
theorem zEx (w:World):Calls Tryz.prog 222 #[] w fun r w'=>r=.returned (.agg (J 1 0 0 0 0 0 0 0 1 1))∧Bw w w':=by
 obtain⟨V,hV⟩:∃V,V=w.alloc (.cells (J 0 0 0 0 0 0 0 0 0 0) 235):=⟨_,rfl⟩;have HR:Hid (zAc V w.heap.size 235 (J 0 0 0 0 0 0 0 0 0 0)):=by rw[hV];exact zAc.new _ _ _
 have HB:Hid (Bw w V):=by rw[hV];exact bA
 have HV:=zAb hV;clear hV;go_enter Tryz.func222,Tryz.ntmps222
 go_upto_region 1 with fail
 rw[←un HV];clear HV
 go_wp2_with fail
 refine(zDx 1 0 (-1) 0 0 0 0 0 _).mono ?_;rintro e W ⟨rfl,hb⟩;have HR1:=zAb ((un HR).later hb);have HB1:=zAb (bt HB hb);clear HR HB hb;have HR:=HR1;have HB:=HB1;clear HR1 HB1
 go_wp2_with fail
 refine(zCy _).mono ?_;rintro e W ⟨rfl,hb⟩;have HR1:=zAb ((un HR).later hb);have HB1:=zAb (bt HB hb);clear HR HB hb;have HR:=HR1;have HB:=HB1;clear HR1 HB1
 go_wp2_with fail
 refine(zDf 1 0 (-1) 0 0 0 0 0 1 1 0 0 1 0 0 0 0 0 1 1 1 0 0 0 0 0 0 0 1 1 _ (by decide +kernel) (by decide +kernel) (by decide +kernel)).mono ?_;rintro e W ⟨rfl,hb⟩;have HR1:=zAb ((un HR).later hb);have HB1:=zAb (bt HB hb);clear HR HB hb;have HR:=HR1;have HB:=HB1;clear HR1 HB1
 go_wp2_with (refine zAn 235 10 zCv rfl (.tmp 0) (.tmp 4) rfl w.heap.size (J 0 0 0 0 0 0 0 0 0 0) (J 1 0 0 0 0 0 0 0 1 1) rfl rfl rfl rfl (un HR) (by kernel_rfl) ?_)
 exact bodyPost_ret (v:=.agg (J 1 0 0 0 0 0 0 0 1 1)) (res43 Tryz.results222 _ _ w.heap.size _ rfl rfl ((un HR).setRow _)) rfl ⟨rfl,below_setRow (un HB) (Nat.le_refl _) _⟩
theorem gram_made (w:World):Calls Tryz.prog 223 #[] w fun r w'=>r=.returned (.agg #[I 0,I 1,I 0,I 0,I 0,I 0,I 0,I 0,I 1,I 1000])∧Below w.heap.size w w':=by
 obtain⟨V,hV⟩:∃V,V=w.alloc (.cells #[I 0,I 0,I 0,I 0,I 0,I 0,I 0,I 0,I 0,I 0] 235):=⟨_,rfl⟩
 have HR:Hid (zAc V w.heap.size 235 #[I 0,I 0,I 0,I 0,I 0,I 0,I 0,I 0,I 0,I 0]):=by rw[hV];exact zAc.new _ _ _
 have HB:Hid (Below w.heap.size w V):=by rw[hV];exact(Below.refl _ _).alloc (Nat.le_refl _) _
 have HV:=zAb hV
 clear hV
 go_enter Tryz.func223,Tryz.ntmps223
 go_upto_region 1 with fail
 rw[←un HV]
 clear HV
 go_wp2_with fail
 refine(zDx 2 1 (-1) 0 0 0 0 0 _).mono ?_
 rintro e W ⟨rfl,hb⟩
 have HR1:=zAb ((un HR).later hb);have HB1:=zAb ((un HB).trans (hb.mono (un HB).size))
 clear HR HB hb
 have HR:=HR1;have HB:=HB1
 clear HR1 HB1
 go_wp2_with fail
 refine(zCy _).mono ?_
 rintro e W ⟨rfl,hb⟩
 have HR1:=zAb ((un HR).later hb);have HB1:=zAb ((un HB).trans (hb.mono (un HB).size))
 clear HR HB hb
 have HR:=HR1;have HB:=HB1
 clear HR1 HB1
 go_wp2_with fail
 refine(zDf 2 1 (-1) 0 0 0 0 0 1 1 0 0 1 0 0 0 0 0 1 1 2 1 0 0 0 0 0 0 1 1 _ (by decide +kernel) (by decide +kernel) (by decide +kernel)).mono ?_
 rintro e W ⟨rfl,hb⟩
 have HR1:=zAb ((un HR).later hb);have HB1:=zAb ((un HB).trans (hb.mono (un HB).size))
 clear HR HB hb
 have HR:=HR1;have HB:=HB1
 clear HR1 HB1
 go_wp2_with fail
 refine(zEx _).mono ?_
 rintro e W ⟨rfl,hb⟩
 have HR1:=zAb ((un HR).later hb);have HB1:=zAb ((un HB).trans (hb.mono (un HB).size))
 clear HR HB hb
 have HR:=HR1;have HB:=HB1
 clear HR1 HB1
 go_wp2_with fail
 refine(zFm 2 1 0 0 0 0 0 0 1 1 1 0 0 0 0 0 0 0 1 1 1 1 0 0 0 0 0 0 1 1 _ (by decide +kernel) (by decide +kernel) (by decide +kernel)).mono ?_
 rintro e W ⟨rfl,hb⟩
 have HR1:=zAb ((un HR).later hb);have HB1:=zAb ((un HB).trans (hb.mono (un HB).size))
 clear HR HB hb
 have HR:=HR1;have HB:=HB1
 clear HR1 HB1
 go_wp2_with fail
 refine(zEx _).mono ?_
 rintro e W ⟨rfl,hb⟩
 have HR1:=zAb ((un HR).later hb);have HB1:=zAb ((un HB).trans (hb.mono (un HB).size))
 clear HR HB hb
 have HR:=HR1;have HB:=HB1
 clear HR1 HB1
 go_wp2_with fail
 refine(zFm 1 1 0 0 0 0 0 0 1 1 1 0 0 0 0 0 0 0 1 1 0 1 0 0 0 0 0 0 1 1 _ (by decide +kernel) (by decide +kernel) (by decide +kernel)).mono ?_
 rintro e W ⟨rfl,hb⟩
 have HR1:=zAb ((un HR).later hb);have HB1:=zAb ((un HB).trans (hb.mono (un HB).size))
 clear HR HB hb
 have HR:=HR1;have HB:=HB1
 clear HR1 HB1
 go_upto_region 2 with fail
 have HX:Hid (zAc (W.alloc (.cells #[I 0,I 1,I 0,I 0,I 0,I 0,I 0,I 0,I 1,I 1] 235)) W.heap.size 235 #[I 0,I 1,I 0,I 0,I 0,I 0,I 0,I 0,I 1,I 1]∧Below W.heap.size W (W.alloc (.cells #[I 0,I 1,I 0,I 0,I 0,I 0,I 0,I 0,I 1,I 1] 235))):=⟨zAc.new _ _ _,(Below.refl _ _).alloc (Nat.le_refl _) _⟩
 obtain⟨g1,hg1⟩:∃g1,g1=W.heap.size:=⟨_,rfl⟩
 obtain⟨U,hU⟩:∃U,U=W.alloc (.cells #[I 0,I 1,I 0,I 0,I 0,I 0,I 0,I 0,I 1,I 1] 235):=⟨_,rfl⟩
 rw[←hU]at HX ⊢
 rw[←hg1]at HX ⊢
 have hne:¬g1=w.heap.size:=by have:=(un HR).lt;omega
 have HR1:=zAb ((un HR).later (by rw[←hg1];exact(un HX).2));have HB1:=zAb ((un HB).trans (Below.mono (by rw[←hg1];exact(un HX).2:Below W.heap.size W U) (un HB).size))
 have HQ:=zAb (un HX).1
 clear HX HR HB hU hg1
 have HBD:Hid (Below U.heap.size U U.drew):=(Below.refl _ _).drew
 have HSS:Hid (∀W',zAc W' g1 235 #[I 0,I 1,I 0,I 0,I 0,I 0,I 0,I 0,I 1,I 1]→W'.cell? ⟨g1,0,none⟩=some (I 0)∧W'.cell? ⟨g1,1,none⟩=some (I 1)∧W'.cell? ⟨g1,2,none⟩=some (I 0)∧W'.cell? ⟨g1,3,none⟩=some (I 0)∧W'.cell? ⟨g1,4,none⟩=some (I 0)∧W'.cell? ⟨g1,5,none⟩=some (I 0)∧W'.cell? ⟨g1,6,none⟩=some (I 0)∧W'.cell? ⟨g1,7,none⟩=some (I 0)∧W'.cell? ⟨g1,8,none⟩=some (I 1)∧W'.cell? ⟨g1,9,none⟩=some (I 1)):=fun W' h=>⟨h.ub.c 0 _ rfl,h.ub.c 1 _ rfl,h.ub.c 2 _ rfl,h.ub.c 3 _ rfl,h.ub.c 4 _ rfl,h.ub.c 5 _ rfl,h.ub.c 6 _ rfl,h.ub.c 7 _ rfl,h.ub.c 8 _ rfl,h.ub.c 9 _ rfl⟩
 have HR2:=zAb ((un HR1).later (un HBD));have HQ2:=zAb ((un HQ).later (un HBD));have HB2:=zAb ((un HB1).trans ((un HBD).mono (un HB1).size))
 clear HR1 HQ HB1
 have HS0:=zAb (un HSS _ (un HQ2))
 refine zAi 3 (fun W'=>W'.cell? ⟨g1,0,none⟩=some (I 0)∧W'.cell? ⟨g1,1,none⟩=some (I 1)∧W'.cell? ⟨g1,2,none⟩=some (I 0)∧W'.cell? ⟨g1,3,none⟩=some (I 0)∧W'.cell? ⟨g1,4,none⟩=some (I 0)∧W'.cell? ⟨g1,5,none⟩=some (I 0)∧W'.cell? ⟨g1,6,none⟩=some (I 0)∧W'.cell? ⟨g1,7,none⟩=some (I 0)∧W'.cell? ⟨g1,8,none⟩=some (I 1)∧W'.cell? ⟨g1,9,none⟩=some (I 1)) (fun _=>True) 4 rfl (by kernel_rfl) ?_
 refine zAd (i:=0) (oi:=_) (v:=.agg #[I 0,I 1,I 0,I 0,I 0,I 0,I 0,I 0,I 1,I 1]) rfl (by kernel_rfl) (by kernel_rfl) (by kernel_rfl) (by kernel_rfl) (fun _ _ _ h=>h) (Or.inl ⟨by rfl,?_⟩) ⟨un HS0,trivial⟩ ?_
 ·intro W' hW
  go_split_ands
  go_simp
 clear HBD HS0
 generalize U.drew=U0 at *
 refine zAg (i:=1) (o:=_) (by kernel_rfl) rfl rfl (fun K hK=>?_)
 go_simp
 refine(zEv 1000 _).mono ?_
 rintro e U1 ⟨rfl,hb⟩
 have HR3:=zAb ((un HR2).later hb);have HQ3:=zAb ((un HQ2).later hb);have HB3:=zAb ((un HB2).trans (hb.mono (un HB2).size))
 clear hb HR2 HQ2 HB2
 refine hK _ _ ⟨un HSS _ (un HQ3),trivial⟩ ?_
 clear hK K
 refine zAg (i:=2) (o:=_) (by kernel_rfl) rfl rfl (fun K hK=>?_)
 go_simp
 refine(zFm 0 1 0 0 0 0 0 0 1 1 0 0 0 0 0 0 0 0 1000 1 0 1 0 0 0 0 0 0 1 1000 _ (by decide +kernel) (by decide +kernel) (by decide +kernel)).mono ?_
 rintro e U2 ⟨rfl,hb⟩
 have HR4:=zAb ((un HR3).later hb);have HQ4:=zAb ((un HQ3).later hb);have HB4:=zAb ((un HB3).trans (hb.mono (un HB3).size))
 clear hb HR3 HQ3 HB3
 refine hK _ _ ⟨un HSS _ (un HQ4),trivial⟩ ?_
 clear hK K
 refine zAj (i:=3) (o:=_) (by kernel_rfl) rfl rfl (by kernel_rfl) (fun K hK=>?_)
 refine wp_store_row 235 (.tmp 0) (.tmp 12) rfl w.heap.size #[I 0,I 1,I 0,I 0,I 0,I 0,I 0,I 0,I 1,I 1000] rfl rfl 235 _ (un HR4) (by rw[zCv];rfl) rfl (by kernel_rfl) (hK _ _ trivial ?_)
 clear hK K
 refine zAm (by kernel_rfl) ?_
 go_wp2_with fail
 exact bodyPost_ret (v:=.agg #[I 0,I 1,I 0,I 0,I 0,I 0,I 0,I 0,I 1,I 1000]) (res43 Tryz.results223 _ _ w.heap.size _ rfl rfl ((un HR4).setRow _)) rfl ⟨rfl,below_setRow (un HB4) (Nat.le_refl _) _⟩
theorem T2.past {W V:World} {x y:Value} (h:Below (W.alloc (.cells #[x,y] 28)).heap.size (W.alloc (.cells #[x,y] 28)) V):T2 V W.heap.size x y :=
  (show T2 (W.alloc (.cells #[x,y] 28)) W.heap.size x y from⟨by simp[go_sem],by simp[go_sem],by simp[go_sem],by simp[go_sem]⟩).later h
theorem T2.pastD {W V:World} {x y:Value} (h:Below (W.alloc (.cells #[x,y] 28)).drew.heap.size (W.alloc (.cells #[x,y] 28)).drew V):T2 V W.heap.size x y :=
  ((show T2 (W.alloc (.cells #[x,y] 28)) W.heap.size x y from⟨by simp[go_sem],by simp[go_sem],by simp[go_sem],by simp[go_sem]⟩).later ((Below.refl _ _).drew)).later h
theorem T2.otherP {W:World} {g:Nat} {x y:Value} (h:T2 W g x y) (k:Nat) (hp:k≠g) (u v:Value):T2 (zBh W k u v) g x y:=by
  unfold zBh
  have e:∀(W:World) (o:Nat) (u:Value),T2 W g x y→T2 (W.setCell ⟨k,o,none⟩ u) g x y:=fun W o u h=>
    ⟨by rw[World.cell?_setCell_other _ _ _ _ (by intro e;cases e;exact hp rfl)];exact h.c0,by rw[World.cell?_setCell_other _ _ _ _ (by intro e;cases e;exact hp rfl)];exact h.c1,by rw[World.frozen?_setCell];exact h.f0,by rw[World.frozen?_setCell];exact h.f1⟩
  exact e _ _ _ (e _ _ _ h)
theorem zGz (a0 a1 a2 a3 a4 a5 a6 a7 n d:Int) (an ad bn bd fn fd:ByteArray) (w:World)
    (hoa:∀W,Below w.heap.size w W→Calls Tryz.prog 103 #[I n] W fun r w'=>r=.returned (.agg #[.string an,.string ad])∧Bw W w')
    (hob:∀W,Below w.heap.size w W→Calls Tryz.prog 103 #[I d] W fun r w'=>r=.returned (.agg #[.string bn,.string bd])∧Bw W w')
    (hqu:∀W,Below w.heap.size w W→Calls Tryz.prog 31 #[.agg #[.string an,.string ad],.agg #[.string bn,.string bd]] W fun r w'=>r=.returned (.tuple #[.agg #[.string fn,.string fd],I 0])∧Bw W w') :
    Calls Tryz.prog 226 #[.agg (J a0 a1 a2 a3 a4 a5 a6 a7 n d)] w fun r w'=>r=.returned (.agg #[.string fn,.string fd])∧Bw w w':=by
  obtain⟨V,hV⟩:∃V,V=(w.alloc (.cells (J a0 a1 a2 a3 a4 a5 a6 a7 n d) 235)).alloc (.cells #[G #[],G #[]] 28):=⟨_,rfl⟩;have HP:Hid (UB V w.heap.size (J a0 a1 a2 a3 a4 a5 a6 a7 n d)):=by rw[hV];exact((zAc.new w (J a0 a1 a2 a3 a4 a5 a6 a7 n d) 235).alloc _).ub
  have HR:Hid (T2 V (w.heap.size+1) (G #[]) (G #[])):=by rw[hV];exact⟨by simp[go_sem],by simp[go_sem],by simp[go_sem],by simp[go_sem]⟩
  have HB:Hid (Bw w V):=by rw[hV];exact bA.alloc (by simp) _
  have HV:=zAb hV;have HOA:=zAb hoa;have HOB:=zAb hob;have HQU:=zAb hqu;clear hoa hob hqu;go_enter Tryz.func226,Tryz.ntmps226
  go_upto_region 1 with fail
  rw[←un HV];clear hV HV;have t0:V.cell? ⟨w.heap.size,8,none⟩=some (I n):=(un HP).c 8 _ rfl;have t1:V.cell? ⟨w.heap.size,9,none⟩=some (I d):=(un HP).c 9 _ rfl;have HC0:Hid (Bw V V.drew):=(Below.refl _ _).drew;have HUP:Hid (∀W,Below V.heap.size V W→Below w.heap.size w W):=fun W h=>bt HB h
  have HUA:Hid (∀W O,Below V.heap.size V W→Below w.heap.size w (W.alloc O)):=fun W O h=>(un HB).trans ((h.alloc h.size O).mono (un HB).size)
  have HUD:Hid (∀O,Below w.heap.size w (V.alloc O).drew):=fun O=>((un HB).alloc (un HB).size O).drew
  have hv0:=(un HP).lt
  go_region_held3 (fun w'=>w'.cell? ⟨w.heap.size,8,none⟩=some (I n)∧w'.cell? ⟨w.heap.size,9,none⟩=some (I d)) (first|assumption|(simp[go_sem, *];done)) ((first
    | (go_at_call_of 103 n;go_must(refine(un HOA _ (by first|exact un HUP _ (un HC0)|exact un HUA _ _ (un HC0)|exact un HUD _)).mono ?_;rintro e wa ⟨rfl,hb⟩;have HCwa:Hid (Bw V wa):=(by first|exact bt HC0 hb|exact zCs (un HC0) hb|exact zBw hb);(first|(have HZwa:=zAb ((un HZ0).later hb);clear u0 u1 uf0 uf1;have u0:=(un HZwa).c0;have u1:=(un HZwa).c1;have uf0:=(un HZwa).f0;have uf1:=(un HZwa).f1)|(have HZwa:Hid (T2 wa V.heap.size (G #[]) (G #[])):=(by first|exact T2.past hb|exact T2.pastD hb);have u0:=(un HZwa).c0;have u1:=(un HZwa).c1;have uf0:=(un HZwa).f0;have uf1:=(un HZwa).f1)|skip);clear hb t0 t1;have t0:wa.cell? ⟨w.heap.size,8,none⟩=some (I n):=((un HP).later (un HCwa)).c 8 _ rfl;have t1:wa.cell? ⟨w.heap.size,9,none⟩=some (I d):=((un HP).later (un HCwa)).c 9 _ rfl;have hvwa:=((un HP).later (un HCwa)).lt))
    | (go_at_call_of 103 d;go_must(refine(un HOB _ (by first|exact un HUP _ (un HCwa)|exact un HUA _ _ (un HCwa)|exact un HUD _)).mono ?_;rintro e wb ⟨rfl,hb⟩;have HCwb:Hid (Bw V wb):=(by first|exact bt HCwa hb|exact zCs (un HCwa) hb|exact zBw hb);(first|(have HZwb:=zAb ((un HZwa).later hb);clear u0 u1 uf0 uf1;have u0:=(un HZwb).c0;have u1:=(un HZwb).c1;have uf0:=(un HZwb).f0;have uf1:=(un HZwb).f1)|(have HZwb:Hid (T2 wb wa.heap.size (G #[]) (G #[])):=(by first|exact T2.past hb|exact T2.pastD hb);have u0:=(un HZwb).c0;have u1:=(un HZwb).c1;have uf0:=(un HZwb).f0;have uf1:=(un HZwb).f1)|skip);clear hb t0 t1;have t0:wb.cell? ⟨w.heap.size,8,none⟩=some (I n):=((un HP).later (un HCwb)).c 8 _ rfl;have t1:wb.cell? ⟨w.heap.size,9,none⟩=some (I d):=((un HP).later (un HCwb)).c 9 _ rfl;have hvwb:=((un HP).later (un HCwb)).lt))
    | (go_at_call 31;go_must(refine(un HQU _ (by first|exact un HUP _ (un HCwb)|exact un HUA _ _ (un HCwb)|exact un HUD _)).mono ?_;rintro e wc ⟨rfl,hb⟩;have HCwc:Hid (Bw V wc):=(by first|exact bt HCwb hb|exact zCs (un HCwb) hb|exact zBw hb);(first|(have HZwc:=zAb ((un HZwb).later hb);clear u0 u1 uf0 uf1;have u0:=(un HZwc).c0;have u1:=(un HZwc).c1;have uf0:=(un HZwc).f0;have uf1:=(un HZwc).f1)|(have HZwc:Hid (T2 wc wb.heap.size (G #[]) (G #[])):=(by first|exact T2.past hb|exact T2.pastD hb);have u0:=(un HZwc).c0;have u1:=(un HZwc).c1;have uf0:=(un HZwc).f0;have uf1:=(un HZwc).f1)|skip);clear hb t0 t1;have t0:wc.cell? ⟨w.heap.size,8,none⟩=some (I n):=((un HP).later (un HCwc)).c 8 _ rfl;have t1:wc.cell? ⟨w.heap.size,9,none⟩=some (I d):=((un HP).later (un HCwc)).c 9 _ rfl;have hvwc:=((un HP).later (un HCwc)).lt))))
  all_goals
    first
    | (obtain⟨X,hX⟩:∃X,X=wc.heap.size:=⟨_,rfl⟩
       obtain⟨U,hU⟩:∃U,U=wc.alloc (.cells #[.string fn,.string fd] 28):=⟨_,rfl⟩
       have HF:Hid (T2 U X (.string fn) (.string fd)∧T2 U (w.heap.size+1) (G #[]) (G #[])∧Bw w U):=by
         rw[hU,hX];exact⟨⟨by simp[go_sem],by simp[go_sem],by simp[go_sem],by simp[go_sem]⟩,((un HR).later (un HCwc)).later bA,un HUA _ _ (un HCwc)⟩
       rw[←hU,←hX];clear hU hX)
    | (obtain⟨X,hX⟩:∃X,X=wb.heap.size:=⟨_,rfl⟩
       obtain⟨U,hU⟩:∃U,U=(wc.setCell { block:=wb.heap.size,off:=0 } (.string fn)).setCell { block:=wb.heap.size,off:=1 } (.string fd):=⟨_,rfl⟩
       have HF:Hid (T2 U X (.string fn) (.string fd)∧T2 U (w.heap.size+1) (G #[]) (G #[])∧Bw w U):=by
         rw[hU,hX];have h1:=((un HR).later (un HCwb)).lt;exact⟨(un HZwc).store _ _,((un HR).later (un HCwc)).otherP wb.heap.size (by omega) _ _,zAk (un HUP _ (un HCwc)) (by omega) _ _⟩
       rw[←hU,←hX];clear hU hX)
    | (obtain⟨X,hX⟩:∃X,X=wa.heap.size:=⟨_,rfl⟩
       obtain⟨U,hU⟩:∃U,U=(wc.setCell { block:=wa.heap.size,off:=0 } (.string fn)).setCell { block:=wa.heap.size,off:=1 } (.string fd):=⟨_,rfl⟩
       have HF:Hid (T2 U X (.string fn) (.string fd)∧T2 U (w.heap.size+1) (G #[]) (G #[])∧Bw w U):=by
         rw[hU,hX];have h1:=((un HR).later (un HCwa)).lt;exact⟨(un HZwc).store _ _,((un HR).later (un HCwc)).otherP wa.heap.size (by omega) _ _,zAk (un HUP _ (un HCwc)) (by omega) _ _⟩
       rw[←hU,←hX];clear hU hX)
    | (obtain⟨X,hX⟩:∃X,X=V.heap.size:=⟨_,rfl⟩
       obtain⟨U,hU⟩:∃U,U=(wc.setCell { block:=V.heap.size,off:=0 } (.string fn)).setCell { block:=V.heap.size,off:=1 } (.string fd):=⟨_,rfl⟩
       have HF:Hid (T2 U X (.string fn) (.string fd)∧T2 U (w.heap.size+1) (G #[]) (G #[])∧Bw w U):=by
         rw[hU,hX];have h1:=(un HR).lt;exact⟨(un HZwc).store _ _,((un HR).later (un HCwc)).otherP V.heap.size (by omega) _ _,zAk (un HUP _ (un HCwc)) (by omega) _ _⟩
       rw[←hU,←hX];clear hU hX)
  all_goals
    have x0:=(un HF).1.c0;have x1:=(un HF).1.c1;have r0:=(un HF).2.1.c0;have r1:=(un HF).2.1.c1;have rf0:=(un HF).2.1.f0;have rf1:=(un HF).2.1.f1
    go_wp2_with fail
    have hS:=(un HF).2.1.store (.string fn) (.string fd);have hb:=zAk (un HF).2.2 (by omega) (.string fn) (.string fd) (g:=w.heap.size+1);have v0:=hS.c0;have v1:=hS.c1;exact bodyPost_ret (v:=.agg #[.string fn,.string fd]) (w:=zBh U (w.heap.size+1) (.string fn) (.string fd)) (by simp[results,Tryz.results226,go_sem,v0,v1]) rfl ⟨rfl,hb⟩
end Go.Proofs.YtliadckofhblnaaGreatDoor
namespace Go.Proofs.YtliadckofhblnaaGreatDoor.Tm
open Go.RowKit
theorem zCs {U W V:World} {O:Obj} (h:Below U.heap.size U W) (hb:Below (W.alloc O).heap.size (W.alloc O) V):Below U.heap.size U V :=
  (h.alloc h.size O).trans (hb.mono (h.alloc h.size O).size)
theorem zBw {W V:World} {O:Obj} (hb:Below (W.alloc O).drew.heap.size (W.alloc O).drew V):Below W.heap.size W V :=
  have h0:=(Below.refl W.heap.size W).alloc (Nat.le_refl _) O;have h:Below W.heap.size W (W.alloc O).drew:=h0.trans ((Below.refl _ _).drew.mono h0.size)
  h.trans (hb.mono h.size)
theorem told_walk (a b:Int) (an ad bn bd fn fd:ByteArray) (w:World)
    (hoa:∀W,Below w.heap.size w W→Calls Tryz.prog 103 #[I a] W fun r w'=>r=.returned (.agg #[.string an,.string ad])∧Bw W w')
    (hob:∀W,Below w.heap.size w W→Calls Tryz.prog 103 #[I b] W fun r w'=>r=.returned (.agg #[.string bn,.string bd])∧Bw W w')
    (hqu:∀W,Below w.heap.size w W→Calls Tryz.prog 31 #[.agg #[.string an,.string ad],.agg #[.string bn,.string bd]] W fun r w'=>r=.returned (.tuple #[.agg #[.string fn,.string fd],I 0])∧Bw W w') :
    Calls Tryz.prog 109 #[.agg #[I a,I b]] w fun r w'=>r=.returned (.agg #[.string fn,.string fd])∧Bw w w':=by
  obtain⟨V,hV⟩:∃V,V=(w.alloc (.cells #[I a,I b] 89)).alloc (.cells #[G #[],G #[]] 28):=⟨_,rfl⟩;have HP:Hid (T2 V w.heap.size (I a) (I b)):=by rw[hV];exact⟨by simp[go_sem],by simp[go_sem],by simp[go_sem],by simp[go_sem]⟩
  have HR:Hid (T2 V (w.heap.size+1) (G #[]) (G #[])):=by rw[hV];exact⟨by simp[go_sem],by simp[go_sem],by simp[go_sem],by simp[go_sem]⟩
  have HB:Hid (Bw w V):=by rw[hV];exact bA.alloc (by simp) _
  have HV:=zAb hV;have HOA:=zAb hoa;have HOB:=zAb hob;have HQU:=zAb hqu;clear hoa hob hqu;go_enter Tryz.func109,Tryz.ntmps109
  go_upto_region 1 with fail
  rw[←un HV];clear hV HV;have t0:=(un HP).c0;have t1:=(un HP).c1;have HC0:Hid (Bw V V.drew):=(Below.refl _ _).drew;have HUP:Hid (∀W,Below V.heap.size V W→Below w.heap.size w W):=fun W h=>bt HB h
  have HUA:Hid (∀W O,Below V.heap.size V W→Below w.heap.size w (W.alloc O)):=fun W O h=>(un HB).trans ((h.alloc h.size O).mono (un HB).size)
  have HUD:Hid (∀O,Below w.heap.size w (V.alloc O).drew):=fun O=>((un HB).alloc (un HB).size O).drew
  have hv0:=(un HP).lt
  go_region_held3 (fun w'=>w'.cell? ⟨w.heap.size,0,none⟩=some (I a)∧w'.cell? ⟨w.heap.size,1,none⟩=some (I b)) (first|assumption|(simp[go_sem, *];done)) ((first
    | (go_at_call_of 103 a;go_must(refine(un HOA _ (by first|exact un HUP _ (un HC0)|exact un HUA _ _ (un HC0)|exact un HUD _)).mono ?_;rintro e wa ⟨rfl,hb⟩;have HCwa:Hid (Bw V wa):=(by first|exact bt HC0 hb|exact zCs (un HC0) hb|exact zBw hb);(first|(have HZwa:=zAb ((un HZ0).later hb);clear u0 u1 uf0 uf1;have u0:=(un HZwa).c0;have u1:=(un HZwa).c1;have uf0:=(un HZwa).f0;have uf1:=(un HZwa).f1)|(have HZwa:Hid (T2 wa V.heap.size (G #[]) (G #[])):=(by first|exact T2.past hb|exact T2.pastD hb);have u0:=(un HZwa).c0;have u1:=(un HZwa).c1;have uf0:=(un HZwa).f0;have uf1:=(un HZwa).f1)|skip);clear hb t0 t1;have t0:=((un HP).later (un HCwa)).c0;have t1:=((un HP).later (un HCwa)).c1;have hvwa:=((un HP).later (un HCwa)).lt))
    | (go_at_call_of 103 b;go_must(refine(un HOB _ (by first|exact un HUP _ (un HCwa)|exact un HUA _ _ (un HCwa)|exact un HUD _)).mono ?_;rintro e wb ⟨rfl,hb⟩;have HCwb:Hid (Bw V wb):=(by first|exact bt HCwa hb|exact zCs (un HCwa) hb|exact zBw hb);(first|(have HZwb:=zAb ((un HZwa).later hb);clear u0 u1 uf0 uf1;have u0:=(un HZwb).c0;have u1:=(un HZwb).c1;have uf0:=(un HZwb).f0;have uf1:=(un HZwb).f1)|(have HZwb:Hid (T2 wb wa.heap.size (G #[]) (G #[])):=(by first|exact T2.past hb|exact T2.pastD hb);have u0:=(un HZwb).c0;have u1:=(un HZwb).c1;have uf0:=(un HZwb).f0;have uf1:=(un HZwb).f1)|skip);clear hb t0 t1;have t0:=((un HP).later (un HCwb)).c0;have t1:=((un HP).later (un HCwb)).c1;have hvwb:=((un HP).later (un HCwb)).lt))
    | (go_at_call 31;go_must(refine(un HQU _ (by first|exact un HUP _ (un HCwb)|exact un HUA _ _ (un HCwb)|exact un HUD _)).mono ?_;rintro e wc ⟨rfl,hb⟩;have HCwc:Hid (Bw V wc):=(by first|exact bt HCwb hb|exact zCs (un HCwb) hb|exact zBw hb);(first|(have HZwc:=zAb ((un HZwb).later hb);clear u0 u1 uf0 uf1;have u0:=(un HZwc).c0;have u1:=(un HZwc).c1;have uf0:=(un HZwc).f0;have uf1:=(un HZwc).f1)|(have HZwc:Hid (T2 wc wb.heap.size (G #[]) (G #[])):=(by first|exact T2.past hb|exact T2.pastD hb);have u0:=(un HZwc).c0;have u1:=(un HZwc).c1;have uf0:=(un HZwc).f0;have uf1:=(un HZwc).f1)|skip);clear hb t0 t1;have t0:=((un HP).later (un HCwc)).c0;have t1:=((un HP).later (un HCwc)).c1;have hvwc:=((un HP).later (un HCwc)).lt))))
  all_goals
    first
    | (obtain⟨X,hX⟩:∃X,X=wc.heap.size:=⟨_,rfl⟩
       obtain⟨U,hU⟩:∃U,U=wc.alloc (.cells #[.string fn,.string fd] 28):=⟨_,rfl⟩
       have HF:Hid (T2 U X (.string fn) (.string fd)∧T2 U (w.heap.size+1) (G #[]) (G #[])∧Bw w U):=by
         rw[hU,hX];exact⟨⟨by simp[go_sem],by simp[go_sem],by simp[go_sem],by simp[go_sem]⟩,((un HR).later (un HCwc)).later bA,un HUA _ _ (un HCwc)⟩
       rw[←hU,←hX];clear hU hX)
    | (obtain⟨X,hX⟩:∃X,X=wb.heap.size:=⟨_,rfl⟩
       obtain⟨U,hU⟩:∃U,U=(wc.setCell { block:=wb.heap.size,off:=0 } (.string fn)).setCell { block:=wb.heap.size,off:=1 } (.string fd):=⟨_,rfl⟩
       have HF:Hid (T2 U X (.string fn) (.string fd)∧T2 U (w.heap.size+1) (G #[]) (G #[])∧Bw w U):=by
         rw[hU,hX];have h1:=((un HR).later (un HCwb)).lt;exact⟨(un HZwc).store _ _,((un HR).later (un HCwc)).otherP wb.heap.size (by omega) _ _,zAk (un HUP _ (un HCwc)) (by omega) _ _⟩
       rw[←hU,←hX];clear hU hX)
    | (obtain⟨X,hX⟩:∃X,X=wa.heap.size:=⟨_,rfl⟩
       obtain⟨U,hU⟩:∃U,U=(wc.setCell { block:=wa.heap.size,off:=0 } (.string fn)).setCell { block:=wa.heap.size,off:=1 } (.string fd):=⟨_,rfl⟩
       have HF:Hid (T2 U X (.string fn) (.string fd)∧T2 U (w.heap.size+1) (G #[]) (G #[])∧Bw w U):=by
         rw[hU,hX];have h1:=((un HR).later (un HCwa)).lt;exact⟨(un HZwc).store _ _,((un HR).later (un HCwc)).otherP wa.heap.size (by omega) _ _,zAk (un HUP _ (un HCwc)) (by omega) _ _⟩
       rw[←hU,←hX];clear hU hX)
    | (obtain⟨X,hX⟩:∃X,X=V.heap.size:=⟨_,rfl⟩
       obtain⟨U,hU⟩:∃U,U=(wc.setCell { block:=V.heap.size,off:=0 } (.string fn)).setCell { block:=V.heap.size,off:=1 } (.string fd):=⟨_,rfl⟩
       have HF:Hid (T2 U X (.string fn) (.string fd)∧T2 U (w.heap.size+1) (G #[]) (G #[])∧Bw w U):=by
         rw[hU,hX];have h1:=(un HR).lt;exact⟨(un HZwc).store _ _,((un HR).later (un HCwc)).otherP V.heap.size (by omega) _ _,zAk (un HUP _ (un HCwc)) (by omega) _ _⟩
       rw[←hU,←hX];clear hU hX)
  all_goals
    have x0:=(un HF).1.c0;have x1:=(un HF).1.c1;have r0:=(un HF).2.1.c0;have r1:=(un HF).2.1.c1;have rf0:=(un HF).2.1.f0;have rf1:=(un HF).2.1.f1
    go_wp2_with fail
    have hS:=(un HF).2.1.store (.string fn) (.string fd);have hb:=zAk (un HF).2.2 (by omega) (.string fn) (.string fd) (g:=w.heap.size+1);have v0:=hS.c0;have v1:=hS.c1;exact bodyPost_ret (v:=.agg #[.string fn,.string fd]) (w:=zBh U (w.heap.size+1) (.string fn) (.string fd)) (by simp[results,Tryz.results109,go_sem,v0,v1]) rfl ⟨rfl,hb⟩
end Go.Proofs.YtliadckofhblnaaGreatDoor.Tm
namespace Go.Proofs.YtliadckofhblnaaGreatDoor
open Go.RowKit
theorem zHk (s:ByteArray) (n:Nat) (h:Cub.rightB s.data.toList=true) (hv:Cub.dval s.data.toList=n):s=tb n∧n<10 ^ 600:=by
 obtain⟨m,hm,rfl⟩:=tb_of h;have:=(zEk m hm).2;have e:m=n:=this.symm.trans hv;subst e;exact⟨rfl,hm⟩
end Go.Proofs.YtliadckofhblnaaGreatDoor
namespace Go.Proofs.YtliadckofhblnaaGreatDoor.Tm
open Go.RowKit
theorem one_lt (E:Nat) (h:E=600):(1:Nat)<10 ^ E:=Nat.one_lt_pow (by omega) (by decide)
theorem zFx (E:Nat) (h:E=600):10 ^ 20≤10 ^ E:=Nat.pow_le_pow_right (by decide) (by omega)
theorem zDt {x:Rat} (h1:x.num.natAbs<10 ^ 20) (h2:x.den<10 ^ 20):Small x:=⟨Nat.lt_of_lt_of_le h1 (zFx 600 rfl),Nat.lt_of_lt_of_le h2 (zFx 600 rfl)⟩
theorem zCh (N:Nat) (hN:N<9223372036854775808):IsR (sT false N) ⟨#[49]⟩ (Cub.valQ false N 1):=by
 have hs:N<10 ^ 600:=u64_600 N (by omega);have hl:Cub.Low false N 1:=⟨by decide,Nat.gcd_one_right _,fun h=>by cases h⟩;obtain⟨e1,e2,e3⟩:=Cub.low_is hl;have hsm:Small (Cub.valQ false N 1):=⟨by rw[←e2];exact hs,by rw[←e3];exact one_lt 600 rfl⟩;refine⟨hsm,?_,?_⟩
 ·unfold zEp;rw[if_pos hsm,←e1,←e2]
 ·unfold zEr;rw[if_pos hsm,←e3];exact(zHk ⟨#[49]⟩ 1 (by decide) (by decide)).1
theorem zGf (N D:Nat) (q:Rat) (w:World) (hN:N<9223372036854775808) (hD:D<9223372036854775808) (hD0:Cub.valQ false D 1≠0) (hq:Cub.valQ false N 1*(Cub.valQ false D 1)⁻¹=q) (hs:Small q) (htab:Tab w) :
  Calls Tryz.prog 109 #[.agg #[I (N:Int),I (D:Int)]] w fun r w'=>r=.returned (.agg #[.string (zEp q),.string (zEr q)])∧Bw w w':=by
 refine told_walk (N:Int) (D:Int) (sT false N) ⟨#[49]⟩ (sT false D) ⟨#[49]⟩ (zEp q) (zEr q) w (fun W hb=>zCg N W hN (htab.later hb)) (fun W hb=>zCg D W hD (htab.later hb)) (fun W hb=>?_);have h:=zGq (sT false N) ⟨#[49]⟩ (sT false D) ⟨#[49]⟩ _ _ W (zCh N hN) (zCh D hD) hD0 (htab.later hb);unfold Ans at h
 rw[hq,show zHa q=0 from by unfold zHa;rw[if_pos hs]]at h;exact h
theorem zEq (N D:Nat) (q:Rat) (w:World) (hN:N<9223372036854775808) (hD:D<9223372036854775808) (hD0:Cub.valQ false D 1≠0) (hq:Cub.valQ false N 1*(Cub.valQ false D 1)⁻¹=q) (hs:Small q) (htab:Tab w) :
  Calls Tryz.prog 54 #[.agg #[I (N:Int),I (D:Int)]] w fun r w'=>∃v,r=.returned v∧QOf w' v q 67∧Bw w w':=by
 obtain⟨V,hV⟩:∃V,V=(w.alloc (.cells #[I (N:Int),I (D:Int)] 89)).alloc (.cells #[.bool false,.slice none 0 0,.slice none 0 0] 82):=⟨_,rfl⟩;have HA:Hid (T2 V w.heap.size (I (N:Int)) (I (D:Int))):=by rw[hV];exact⟨by simp[go_sem],by simp[go_sem],by simp[go_sem],by simp[go_sem]⟩
 have HR:Hid (FBox V (w.heap.size+1) (.bool false) (.slice none 0 0) (.slice none 0 0)):=by rw[hV];exact⟨by simp[go_sem],by simp[go_sem],by simp[go_sem],by simp[go_sem],by simp[go_sem],by simp[go_sem]⟩
 have HB:Hid (Bw w V):=by rw[hV];exact bA.alloc (by simp) _
 have HV:=zAb hV;have HT:=zAb (fun W hb=>zGf N D q W hN hD hD0 hq hs (htab.later hb));have HRD:=zAb (fun W=>qread (zEp q) (zEr q) q W (numT_of hs));clear hV htab hs hq hD0 hN hD;generalize zEp q=nt at *
 generalize zEr q=dt at *
 go_enter Tryz.func54,Tryz.ntmps54
 go_upto_region 1 with fail
 rw[←un HV];clear HV;have t0:=(un HA).c0;have t1:=(un HA).c1
 go_upto_region 2 with (first
  | (go_at_call 109;go_must(refine(un HT _ (un HB)).mono ?_;rintro e w1 ⟨rfl,hb1⟩;have HB1:=zAb hb1;clear hb1 t0 t1))
  | (go_at_call 118;go_must(refine(un HRD _).mono ?_;rintro e w2 ⟨v2,rfl,hv2,hb2⟩;obtain⟨b1,i1,i2,i3,i4,i5,i6,rfl⟩:=hv2.form;have HV2:=zAb hv2;have HB2:Hid (Bw V w2):=bt HB1 hb2;clear hv2 hb2)))
 obtain⟨U,hU⟩:∃U,U=w2.alloc (.cells #[.bool b1,.slice i1 i2 i3,.slice i4 i5 i6] 82):=⟨_,rfl⟩;have HBU2:Hid (Bw w2 U):=by rw[hU];exact bA
 have HX:Hid (FBox U w2.heap.size (.bool b1) (.slice i1 i2 i3) (.slice i4 i5 i6)):=by rw[hU];exact⟨by simp[go_sem],by simp[go_sem],by simp[go_sem],by simp[go_sem],by simp[go_sem],by simp[go_sem]⟩
 rw[←hU];clear hU;have HBU:Hid (Bw V U):=(un HB2).trans ((un HBU2).mono (un HB2).size);have HRU:=zAb ((un HR).later (un HBU));have HVU:=zAb ((un HV2).later (un HBU2));have HBW:Hid (Bw w U):=(un HB).trans ((un HBU).mono (un HB).size);generalize w2.heap.size=g2 at *
 have x0:=(un HX).c0;have x1:=(un HX).c1;have x2:=(un HX).c2;have r0:=(un HRU).c0;have r1:=(un HRU).c1;have r2:=(un HRU).c2;have rf0:=(un HRU).f0;have rf1:=(un HRU).f1;have rf2:=(un HRU).f2
 go_wp2_with fail
 have hS:=(un HRU).store (.bool b1) (.slice i1 i2 i3) (.slice i4 i5 i6);have u0:=hS.c0;have u1:=hS.c1;have u2:=hS.c2;exact bodyPost_ret (v:=.agg #[.bool b1,.slice i1 i2 i3,.slice i4 i5 i6]) (w:=zAs U (w.heap.size+1) (.bool b1) (.slice i1 i2 i3) (.slice i4 i5 i6)) (by simp[results,Tryz.results54,go_sem,u0,u1,u2]) rfl ⟨_,rfl,(un HVU).stored (un HRU),zAq (un HBW) (by omega) _ _ _⟩
structure T6 (W:World) (g:Nat) (a b c d e f:Value):Prop where
 c0:W.cell? ⟨g,0,none⟩=some a
 c1:W.cell? ⟨g,1,none⟩=some b
 c2:W.cell? ⟨g,2,none⟩=some c
 c3:W.cell? ⟨g,3,none⟩=some d
 c4:W.cell? ⟨g,4,none⟩=some e
 c5:W.cell? ⟨g,5,none⟩=some f
 f0:W.frozen? ⟨g,0,none⟩=false
 f1:W.frozen? ⟨g,1,none⟩=false
 f2:W.frozen? ⟨g,2,none⟩=false
 f3:W.frozen? ⟨g,3,none⟩=false
 f4:W.frozen? ⟨g,4,none⟩=false
 f5:W.frozen? ⟨g,5,none⟩=false
theorem T6.lt {W:World} {g:Nat} {a b c d e f:Value} (h:T6 W g a b c d e f):g<W.heap.size:=World.block_lt_of_cell? _ _ h.c0
theorem T6.later {W V:World} {g:Nat} {a b c d e f:Value} (h:T6 W g a b c d e f) (hb:Below W.heap.size W V):T6 V g a b c d e f :=
 ⟨(hb.cell (p:=⟨g,0,none⟩) h.lt).trans h.c0,(hb.cell (p:=⟨g,1,none⟩) h.lt).trans h.c1,(hb.cell (p:=⟨g,2,none⟩) h.lt).trans h.c2,(hb.cell (p:=⟨g,3,none⟩) h.lt).trans h.c3,(hb.cell (p:=⟨g,4,none⟩) h.lt).trans h.c4,(hb.cell (p:=⟨g,5,none⟩) h.lt).trans h.c5,(hb.frozen (p:=⟨g,0,none⟩) h.lt).trans h.f0,(hb.frozen (p:=⟨g,1,none⟩) h.lt).trans h.f1,(hb.frozen (p:=⟨g,2,none⟩) h.lt).trans h.f2,(hb.frozen (p:=⟨g,3,none⟩) h.lt).trans h.f3,(hb.frozen (p:=⟨g,4,none⟩) h.lt).trans h.f4,(hb.frozen (p:=⟨g,5,none⟩) h.lt).trans h.f5⟩
theorem steps_any (ux z:Value) (p x:Rat) (k:Nat) (w:World) (b c d:Bool) (a1 a2 a3 a4 a5 a6:Option Addr) (l1 c1 l2 c2 l3 c3 l4 c4 l5 c5 l6 c6:Nat) (hux:ux=.agg #[.bool b,.slice a1 l1 c1,.slice a2 l2 c2]) (hzz:z=.agg #[.bool d,.slice a5 l5 c5,.slice a6 l6 c6]) (hx:QOf w ux p k) (hz:QOf w z x k) (hk:k+k≤100000) :
  Calls Tryz.prog 181 #[.agg #[.bool b,.slice a1 l1 c1,.slice a2 l2 c2,.bool c,.slice a3 l3 c3,.slice a4 l4 c4],z] w fun r w'=>∃v,r=.returned v∧QOf w' v (x*p) (k+k)∧Bw w w':=by
 subst hux hzz;obtain⟨V,hV⟩:∃V,V=((w.alloc (.cells #[.bool b,.slice a1 l1 c1,.slice a2 l2 c2,.bool c,.slice a3 l3 c3,.slice a4 l4 c4] 84)).alloc (.cells #[.bool d,.slice a5 l5 c5,.slice a6 l6 c6] 82)).alloc (.cells #[.bool false,.slice none 0 0,.slice none 0 0] 82):=⟨_,rfl⟩;have HU:Hid (T6 V w.heap.size (.bool b) (.slice a1 l1 c1) (.slice a2 l2 c2) (.bool c) (.slice a3 l3 c3) (.slice a4 l4 c4)):=by rw[hV];exact⟨by simp[go_sem],by simp[go_sem],by simp[go_sem],by simp[go_sem],by simp[go_sem],by simp[go_sem],by simp[go_sem],by simp[go_sem],by simp[go_sem],by simp[go_sem],by simp[go_sem],by simp[go_sem]⟩
 have HN:Hid (FBox V (w.heap.size+1) (.bool d) (.slice a5 l5 c5) (.slice a6 l6 c6)):=by rw[hV];exact⟨by simp[go_sem],by simp[go_sem],by simp[go_sem],by simp[go_sem],by simp[go_sem],by simp[go_sem]⟩
 have HR:Hid (FBox V (w.heap.size+2) (.bool false) (.slice none 0 0) (.slice none 0 0)):=by rw[hV];exact⟨by simp[go_sem],by simp[go_sem],by simp[go_sem],by simp[go_sem],by simp[go_sem],by simp[go_sem]⟩
 have HB:Hid (Bw w V):=by rw[hV];exact(bA.alloc (by simp) _).alloc (by simp;omega) _
 have HV:=zAb hV;have HQ:=zAb (qmul _ _ x p k V (hz.later (un HB)) (hx.later (un HB)) (by omega));clear hV hx hz;go_enter Tryz.func181,Tryz.ntmps181
 go_upto_region 1 with fail
 rw[←un HV];clear HV;have t0:=(un HU).c0;have t1:=(un HU).c1;have t2:=(un HU).c2;have s0:=(un HN).c0;have s1:=(un HN).c1;have s2:=(un HN).c2
 go_wp2_with (go_at_call 65;go_must(refine(un HQ).mono ?_;rintro e w1 ⟨v1,rfl,hv1,hb1⟩;obtain⟨b1,i1,i2,i3,i4,i5,i6,rfl⟩:=hv1.form;have HV1:=zAb hv1;have HR1:=zAb ((un HR).later hb1);have HBW:Hid (Bw w w1):=bt HB hb1;clear hv1 hb1 t0 t1 t2 s0 s1 s2;have r0:=(un HR1).c0;have r1:=(un HR1).c1;have r2:=(un HR1).c2;have rf0:=(un HR1).f0;have rf1:=(un HR1).f1;have rf2:=(un HR1).f2))
 have hS:=(un HR1).store (.bool b1) (.slice i1 i2 i3) (.slice i4 i5 i6);have u0:=hS.c0;have u1:=hS.c1;have u2:=hS.c2;exact bodyPost_ret (v:=.agg #[.bool b1,.slice i1 i2 i3,.slice i4 i5 i6]) (w:=zAs w1 (w.heap.size+2) (.bool b1) (.slice i1 i2 i3) (.slice i4 i5 i6)) (by simp[results,Tryz.results181,go_sem,u0,u1,u2]) rfl ⟨_,rfl,(un HV1).stored (un HR1),zAq (un HBW) (by omega) _ _ _⟩
theorem count_any (ux z:Value) (p x:Rat) (k:Nat) (w:World) (b c d:Bool) (a1 a2 a3 a4 a5 a6:Option Addr) (l1 c1 l2 c2 l3 c3 l4 c4 l5 c5 l6 c6:Nat) (hux:ux=.agg #[.bool b,.slice a1 l1 c1,.slice a2 l2 c2]) (hzz:z=.agg #[.bool d,.slice a5 l5 c5,.slice a6 l6 c6]) (hx:QOf w ux p k) (hz:QOf w z x k) (hk:k+k≤100000) (hp0:p≠0) :
  Calls Tryz.prog 115 #[.agg #[.bool b,.slice a1 l1 c1,.slice a2 l2 c2,.bool c,.slice a3 l3 c3,.slice a4 l4 c4],z] w fun r w'=>∃v,r=.returned v∧QOf w' v (x*p⁻¹) (k+k)∧Bw w w':=by
 subst hux hzz;obtain⟨V,hV⟩:∃V,V=((w.alloc (.cells #[.bool b,.slice a1 l1 c1,.slice a2 l2 c2,.bool c,.slice a3 l3 c3,.slice a4 l4 c4] 84)).alloc (.cells #[.bool d,.slice a5 l5 c5,.slice a6 l6 c6] 82)).alloc (.cells #[.bool false,.slice none 0 0,.slice none 0 0] 82):=⟨_,rfl⟩;have HU:Hid (T6 V w.heap.size (.bool b) (.slice a1 l1 c1) (.slice a2 l2 c2) (.bool c) (.slice a3 l3 c3) (.slice a4 l4 c4)):=by rw[hV];exact⟨by simp[go_sem],by simp[go_sem],by simp[go_sem],by simp[go_sem],by simp[go_sem],by simp[go_sem],by simp[go_sem],by simp[go_sem],by simp[go_sem],by simp[go_sem],by simp[go_sem],by simp[go_sem]⟩
 have HN:Hid (FBox V (w.heap.size+1) (.bool d) (.slice a5 l5 c5) (.slice a6 l6 c6)):=by rw[hV];exact⟨by simp[go_sem],by simp[go_sem],by simp[go_sem],by simp[go_sem],by simp[go_sem],by simp[go_sem]⟩
 have HR:Hid (FBox V (w.heap.size+2) (.bool false) (.slice none 0 0) (.slice none 0 0)):=by rw[hV];exact⟨by simp[go_sem],by simp[go_sem],by simp[go_sem],by simp[go_sem],by simp[go_sem],by simp[go_sem]⟩
 have HB:Hid (Bw w V):=by rw[hV];exact(bA.alloc (by simp) _).alloc (by simp;omega) _
 have HV:=zAb hV;have HQ:=zAb (qquo _ _ x p k V (hz.later (un HB)) (hx.later (un HB)) (by omega) hp0);clear hV hx hz;go_enter Tryz.func115,Tryz.ntmps115
 go_upto_region 1 with fail
 rw[←un HV];clear HV;have t0:=(un HU).c0;have t1:=(un HU).c1;have t2:=(un HU).c2;have s0:=(un HN).c0;have s1:=(un HN).c1;have s2:=(un HN).c2
 go_wp2_with (go_at_call 69;go_must(refine(un HQ).mono ?_;rintro e w1 ⟨v1,rfl,hv1,hb1⟩;obtain⟨b1,i1,i2,i3,i4,i5,i6,rfl⟩:=hv1.form;have HV1:=zAb hv1;have HR1:=zAb ((un HR).later hb1);have HBW:Hid (Bw w w1):=bt HB hb1;clear hv1 hb1 t0 t1 t2 s0 s1 s2;have r0:=(un HR1).c0;have r1:=(un HR1).c1;have r2:=(un HR1).c2;have rf0:=(un HR1).f0;have rf1:=(un HR1).f1;have rf2:=(un HR1).f2))
 have hS:=(un HR1).store (.bool b1) (.slice i1 i2 i3) (.slice i4 i5 i6);have u0:=hS.c0;have u1:=hS.c1;have u2:=hS.c2;exact bodyPost_ret (v:=.agg #[.bool b1,.slice i1 i2 i3,.slice i4 i5 i6]) (w:=zAs w1 (w.heap.size+2) (.bool b1) (.slice i1 i2 i3) (.slice i4 i5 i6)) (by simp[results,Tryz.results115,go_sem,u0,u1,u2]) rfl ⟨_,rfl,(un HV1).stored (un HR1),zAq (un HBW) (by omega) _ _ _⟩
theorem kelvins_any (ux uy z:Value) (p q x:Rat) (k:Nat) (w:World) (b c d:Bool) (a1 a2 a3 a4 a5 a6:Option Addr) (l1 c1 l2 c2 l3 c3 l4 c4 l5 c5 l6 c6:Nat) (hux:ux=.agg #[.bool b,.slice a1 l1 c1,.slice a2 l2 c2]) (huy:uy=.agg #[.bool c,.slice a3 l3 c3,.slice a4 l4 c4]) (hzz:z=.agg #[.bool d,.slice a5 l5 c5,.slice a6 l6 c6]) (hx:QOf w ux p k) (hy:QOf w uy q k) (hz:QOf w z x k) (hk:10*k≤100000) :
  Calls Tryz.prog 111 #[.agg #[.bool b,.slice a1 l1 c1,.slice a2 l2 c2,.bool c,.slice a3 l3 c3,.slice a4 l4 c4],z] w fun r w'=>∃v,r=.returned v∧QOf w' v (x*p+q) (k+k+(k+k)+(k+k))∧Bw w w':=by
 subst hux huy hzz;obtain⟨V,hV⟩:∃V,V=((w.alloc (.cells #[.bool b,.slice a1 l1 c1,.slice a2 l2 c2,.bool c,.slice a3 l3 c3,.slice a4 l4 c4] 84)).alloc (.cells #[.bool d,.slice a5 l5 c5,.slice a6 l6 c6] 82)).alloc (.cells #[.bool false,.slice none 0 0,.slice none 0 0] 82):=⟨_,rfl⟩;have HU:Hid (T6 V w.heap.size (.bool b) (.slice a1 l1 c1) (.slice a2 l2 c2) (.bool c) (.slice a3 l3 c3) (.slice a4 l4 c4)):=by rw[hV];exact⟨by simp[go_sem],by simp[go_sem],by simp[go_sem],by simp[go_sem],by simp[go_sem],by simp[go_sem],by simp[go_sem],by simp[go_sem],by simp[go_sem],by simp[go_sem],by simp[go_sem],by simp[go_sem]⟩
 have HN:Hid (FBox V (w.heap.size+1) (.bool d) (.slice a5 l5 c5) (.slice a6 l6 c6)):=by rw[hV];exact⟨by simp[go_sem],by simp[go_sem],by simp[go_sem],by simp[go_sem],by simp[go_sem],by simp[go_sem]⟩
 have HR:Hid (FBox V (w.heap.size+2) (.bool false) (.slice none 0 0) (.slice none 0 0)):=by rw[hV];exact⟨by simp[go_sem],by simp[go_sem],by simp[go_sem],by simp[go_sem],by simp[go_sem],by simp[go_sem]⟩
 have HB:Hid (Bw w V):=by rw[hV];exact(bA.alloc (by simp) _).alloc (by simp;omega) _
 have HV:=zAb hV;have HX:=zAb hx;have HY:=zAb hy;have HZ:=zAb hz;clear hV hx hy hz;go_enter Tryz.func111,Tryz.ntmps111
 go_upto_region 1 with fail
 rw[←un HV];clear HV
 have HS:Hid (∀W,Below V.heap.size V W→W.cell? ⟨w.heap.size,0,none⟩=some (.bool b)∧W.cell? ⟨w.heap.size,1,none⟩=some (.slice a1 l1 c1)∧W.cell? ⟨w.heap.size,2,none⟩=some (.slice a2 l2 c2)∧W.cell? ⟨w.heap.size,3,none⟩=some (.bool c)∧W.cell? ⟨w.heap.size,4,none⟩=some (.slice a3 l3 c3)∧W.cell? ⟨w.heap.size,5,none⟩=some (.slice a4 l4 c4)∧W.cell? ⟨w.heap.size+1,0,none⟩=some (.bool d)∧W.cell? ⟨w.heap.size+1,1,none⟩=some (.slice a5 l5 c5)∧W.cell? ⟨w.heap.size+1,2,none⟩=some (.slice a6 l6 c6)):=fun W hb=>by
  have h1:=(un HU).later hb;have h2:=(un HN).later hb;exact⟨h1.c0,h1.c1,h1.c2,h1.c3,h1.c4,h1.c5,h2.c0,h2.c1,h2.c2⟩
 have HS0:=zAb (un HS V.drew ((Below.refl _ _).drew));have HD:Hid (Bw w V.drew):=(un HB).trans ((Below.refl _ _).drew.mono (un HB).size);refine zAi 6 (fun W=>W.cell? ⟨w.heap.size,0,none⟩=some (.bool b)∧W.cell? ⟨w.heap.size,1,none⟩=some (.slice a1 l1 c1)∧W.cell? ⟨w.heap.size,2,none⟩=some (.slice a2 l2 c2)∧W.cell? ⟨w.heap.size,3,none⟩=some (.bool c)∧W.cell? ⟨w.heap.size,4,none⟩=some (.slice a3 l3 c3)∧W.cell? ⟨w.heap.size,5,none⟩=some (.slice a4 l4 c4)∧W.cell? ⟨w.heap.size+1,0,none⟩=some (.bool d)∧W.cell? ⟨w.heap.size+1,1,none⟩=some (.slice a5 l5 c5)∧W.cell? ⟨w.heap.size+1,2,none⟩=some (.slice a6 l6 c6)) (fun _=>True) 7 rfl (by kernel_rfl) ?_;refine wT 0 (.agg #[.bool b,.slice a1 l1 c1,.slice a2 l2 c2,.bool c,.slice a3 l3 c3,.slice a4 l4 c4]) rfl (Or.inl ⟨by rfl,?_⟩) ⟨un HS0,trivial⟩ ?_
 ·intro W hW
  go_split_ands
  go_simp
 refine wT 1 (.agg #[.bool d,.slice a5 l5 c5,.slice a6 l6 c6]) rfl (Or.inl ⟨by rfl,?_⟩) ⟨un HS0,trivial⟩ ?_
 ·intro W hW
  go_split_ands
  go_simp
 refine wT 3 (.pointer (some ⟨w.heap.size,3,none⟩)) rfl (Or.inl ⟨by rfl,?_⟩) ⟨un HS0,trivial⟩ ?_
 ·intro W hW
  go_split_ands
  go_simp
 refine wT 4 (.agg #[.bool c,.slice a3 l3 c3,.slice a4 l4 c4]) rfl (Or.inl ⟨by rfl,?_⟩) ⟨un HS0,trivial⟩ ?_
 ·intro W hW
  go_split_ands
  go_simp
 refine wO 2 rfl rfl (fun K hK=>?_)
 go_simp
 refine(steps_any _ _ p x k _ b c d a1 a2 a3 a4 a5 a6 l1 c1 l2 c2 l3 c3 l4 c4 l5 c5 l6 c6 rfl rfl ((un HX).later (un HD)) ((un HZ).later (un HD)) (by omega)).mono ?_;rintro e wa ⟨va,rfl,hva,hba⟩;obtain⟨b7,j1,j2,j3,j4,j5,j6,rfl⟩:=hva.form;have HBA:Hid (Bw V wa):=(Below.refl _ _).drew.trans (hba.mono (Below.refl V.heap.size V).drew.size);have HSA:=zAb (un HS wa (un HBA));have HVA:=zAb hva;have HBWA:Hid (Bw w wa):=(un HB).trans ((un HBA).mono (un HB).size);clear hba hva;refine hK _ _ ⟨un HSA,trivial⟩ ?_;clear hK K;refine wO 5 rfl rfl (fun K hK=>?_)
 go_simp
 refine(qadd _ _ (x*p) q (k+k) _ (un HVA) (((un HY).later (un HBWA)).mono (by omega)) (by omega)).mono ?_;rintro e w1 ⟨v1,rfl,hv1,hb1⟩;obtain⟨b1,i1,i2,i3,i4,i5,i6,rfl⟩:=hv1.form;have HBT:Hid (Bw V w1):=bt HBA hb1;have HST:=zAb (un HS w1 (un HBT));have HV1:=zAb hv1;have HR1:=zAb ((un HR).later (un HBT));have HBW:Hid (Bw w w1):=(un HB).trans ((un HBT).mono (un HB).size);clear hb1 hv1;have r0:=(un HR1).c0;have r1:=(un HR1).c1;have r2:=(un HR1).c2;have rf0:=(un HR1).f0;have rf1:=(un HR1).f1;have rf2:=(un HR1).f2;refine hK _ _ ⟨un HST,trivial⟩ ?_;clear hK K;refine wL 6 rfl rfl (fun K hK=>?_)
 go_simp
 refine hK _ _ trivial ?_;clear hK K;refine wDn ?_
 go_wp2_with fail
 have hS:=(un HR1).store (.bool b1) (.slice i1 i2 i3) (.slice i4 i5 i6);have u0:=hS.c0;have u1:=hS.c1;have u2:=hS.c2;exact bodyPost_ret (v:=.agg #[.bool b1,.slice i1 i2 i3,.slice i4 i5 i6]) (w:=zAs w1 (w.heap.size+2) (.bool b1) (.slice i1 i2 i3) (.slice i4 i5 i6)) (by simp[results,Tryz.results111,go_sem,u0,u1,u2]) rfl ⟨_,rfl,(un HV1).stored (un HR1),zAq (un HBW) (by omega) _ _ _⟩
theorem zJq (ux uy z:Value) (p q x:Rat) (k:Nat) (w:World) (b c d:Bool) (a1 a2 a3 a4 a5 a6:Option Addr) (l1 c1 l2 c2 l3 c3 l4 c4 l5 c5 l6 c6:Nat) (hux:ux=.agg #[.bool b,.slice a1 l1 c1,.slice a2 l2 c2]) (huy:uy=.agg #[.bool c,.slice a3 l3 c3,.slice a4 l4 c4]) (hzz:z=.agg #[.bool d,.slice a5 l5 c5,.slice a6 l6 c6]) (hx:QOf w ux p k) (hy:QOf w uy q k) (hz:QOf w z x k) (hk:10*k≤100000) (hp0:p≠0) :
  Calls Tryz.prog 52 #[.agg #[.bool b,.slice a1 l1 c1,.slice a2 l2 c2,.bool c,.slice a3 l3 c3,.slice a4 l4 c4],z] w fun r w'=>∃v,r=.returned v∧QOf w' v ((x + -q)*p⁻¹) (k+k+k+(k+k+k))∧Bw w w':=by
 subst hux huy hzz;obtain⟨V,hV⟩:∃V,V=((w.alloc (.cells #[.bool b,.slice a1 l1 c1,.slice a2 l2 c2,.bool c,.slice a3 l3 c3,.slice a4 l4 c4] 84)).alloc (.cells #[.bool d,.slice a5 l5 c5,.slice a6 l6 c6] 82)).alloc (.cells #[.bool false,.slice none 0 0,.slice none 0 0] 82):=⟨_,rfl⟩;have HU:Hid (T6 V w.heap.size (.bool b) (.slice a1 l1 c1) (.slice a2 l2 c2) (.bool c) (.slice a3 l3 c3) (.slice a4 l4 c4)):=by rw[hV];exact⟨by simp[go_sem],by simp[go_sem],by simp[go_sem],by simp[go_sem],by simp[go_sem],by simp[go_sem],by simp[go_sem],by simp[go_sem],by simp[go_sem],by simp[go_sem],by simp[go_sem],by simp[go_sem]⟩
 have HN:Hid (FBox V (w.heap.size+1) (.bool d) (.slice a5 l5 c5) (.slice a6 l6 c6)):=by rw[hV];exact⟨by simp[go_sem],by simp[go_sem],by simp[go_sem],by simp[go_sem],by simp[go_sem],by simp[go_sem]⟩
 have HR:Hid (FBox V (w.heap.size+2) (.bool false) (.slice none 0 0) (.slice none 0 0)):=by rw[hV];exact⟨by simp[go_sem],by simp[go_sem],by simp[go_sem],by simp[go_sem],by simp[go_sem],by simp[go_sem]⟩
 have HB:Hid (Bw w V):=by rw[hV];exact(bA.alloc (by simp) _).alloc (by simp;omega) _
 have HV:=zAb hV;have HX:=zAb hx;have HY:=zAb hy;have HZ:=zAb hz;clear hV hx hy hz;go_enter Tryz.func52,Tryz.ntmps52
 go_upto_region 1 with fail
 rw[←un HV];clear HV
 have HS:Hid (∀W,Below V.heap.size V W→W.cell? ⟨w.heap.size,0,none⟩=some (.bool b)∧W.cell? ⟨w.heap.size,1,none⟩=some (.slice a1 l1 c1)∧W.cell? ⟨w.heap.size,2,none⟩=some (.slice a2 l2 c2)∧W.cell? ⟨w.heap.size,3,none⟩=some (.bool c)∧W.cell? ⟨w.heap.size,4,none⟩=some (.slice a3 l3 c3)∧W.cell? ⟨w.heap.size,5,none⟩=some (.slice a4 l4 c4)∧W.cell? ⟨w.heap.size+1,0,none⟩=some (.bool d)∧W.cell? ⟨w.heap.size+1,1,none⟩=some (.slice a5 l5 c5)∧W.cell? ⟨w.heap.size+1,2,none⟩=some (.slice a6 l6 c6)):=fun W hb=>by
  have h1:=(un HU).later hb;have h2:=(un HN).later hb;exact⟨h1.c0,h1.c1,h1.c2,h1.c3,h1.c4,h1.c5,h2.c0,h2.c1,h2.c2⟩
 have HS0:=zAb (un HS V.drew ((Below.refl _ _).drew));have HD:Hid (Bw w V.drew):=(un HB).trans ((Below.refl _ _).drew.mono (un HB).size);refine zAi 6 (fun W=>W.cell? ⟨w.heap.size,0,none⟩=some (.bool b)∧W.cell? ⟨w.heap.size,1,none⟩=some (.slice a1 l1 c1)∧W.cell? ⟨w.heap.size,2,none⟩=some (.slice a2 l2 c2)∧W.cell? ⟨w.heap.size,3,none⟩=some (.bool c)∧W.cell? ⟨w.heap.size,4,none⟩=some (.slice a3 l3 c3)∧W.cell? ⟨w.heap.size,5,none⟩=some (.slice a4 l4 c4)∧W.cell? ⟨w.heap.size+1,0,none⟩=some (.bool d)∧W.cell? ⟨w.heap.size+1,1,none⟩=some (.slice a5 l5 c5)∧W.cell? ⟨w.heap.size+1,2,none⟩=some (.slice a6 l6 c6)) (fun _=>True) 7 rfl (by kernel_rfl) ?_;refine wT 0 (.agg #[.bool b,.slice a1 l1 c1,.slice a2 l2 c2,.bool c,.slice a3 l3 c3,.slice a4 l4 c4]) rfl (Or.inl ⟨by rfl,?_⟩) ⟨un HS0,trivial⟩ ?_
 ·intro W hW
  go_split_ands
  go_simp
 refine wT 1 (.agg #[.bool d,.slice a5 l5 c5,.slice a6 l6 c6]) rfl (Or.inl ⟨by rfl,?_⟩) ⟨un HS0,trivial⟩ ?_
 ·intro W hW
  go_split_ands
  go_simp
 refine wT 2 (.pointer (some ⟨w.heap.size,3,none⟩)) rfl (Or.inl ⟨by rfl,?_⟩) ⟨un HS0,trivial⟩ ?_
 ·intro W hW
  go_split_ands
  go_simp
 refine wT 3 (.agg #[.bool c,.slice a3 l3 c3,.slice a4 l4 c4]) rfl (Or.inl ⟨by rfl,?_⟩) ⟨un HS0,trivial⟩ ?_
 ·intro W hW
  go_split_ands
  go_simp
 refine wO 4 rfl rfl (fun K hK=>?_)
 go_simp
 refine(qsub _ _ x q k _ ((un HZ).later (un HD)) ((un HY).later (un HD)) (by omega)).mono ?_;rintro e wa ⟨va,rfl,hva,hba⟩;obtain⟨b7,j1,j2,j3,j4,j5,j6,rfl⟩:=hva.form;have HBA:Hid (Bw V wa):=(Below.refl _ _).drew.trans (hba.mono (Below.refl V.heap.size V).drew.size);have HSA:=zAb (un HS wa (un HBA));have HVA:=zAb hva;have HBWA:Hid (Bw w wa):=(un HB).trans ((un HBA).mono (un HB).size);clear hba hva;refine hK _ _ ⟨un HSA,trivial⟩ ?_;clear hK K;refine wO 5 rfl rfl (fun K hK=>?_)
 go_simp
 refine(count_any _ _ p (x + -q) (k+k+k) _ b c b7 a1 a2 a3 a4 j1 j4 l1 c1 l2 c2 l3 c3 l4 c4 j2 j3 j5 j6 rfl rfl (((un HX).later (un HBWA)).mono (by omega)) (un HVA) (by omega) hp0).mono ?_;rintro e w1 ⟨v1,rfl,hv1,hb1⟩;obtain⟨b1,i1,i2,i3,i4,i5,i6,rfl⟩:=hv1.form;have HBT:Hid (Bw V w1):=bt HBA hb1;have HST:=zAb (un HS w1 (un HBT));have HV1:=zAb hv1;have HR1:=zAb ((un HR).later (un HBT));have HBW:Hid (Bw w w1):=(un HB).trans ((un HBT).mono (un HB).size);clear hb1 hv1;have r0:=(un HR1).c0;have r1:=(un HR1).c1;have r2:=(un HR1).c2;have rf0:=(un HR1).f0;have rf1:=(un HR1).f1;have rf2:=(un HR1).f2;refine hK _ _ ⟨un HST,trivial⟩ ?_;clear hK K;refine wL 6 rfl rfl (fun K hK=>?_)
 go_simp
 refine hK _ _ trivial ?_;clear hK K;refine wDn ?_
 go_wp2_with fail
 have hS:=(un HR1).store (.bool b1) (.slice i1 i2 i3) (.slice i4 i5 i6);have u0:=hS.c0;have u1:=hS.c1;have u2:=hS.c2;exact bodyPost_ret (v:=.agg #[.bool b1,.slice i1 i2 i3,.slice i4 i5 i6]) (w:=zAs w1 (w.heap.size+2) (.bool b1) (.slice i1 i2 i3) (.slice i4 i5 i6)) (by simp[results,Tryz.results52,go_sem,u0,u1,u2]) rfl ⟨_,rfl,(un HV1).stored (un HR1),zAq (un HBW) (by omega) _ _ _⟩
end Go.Proofs.YtliadckofhblnaaGreatDoor.Tm

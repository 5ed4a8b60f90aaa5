/- A region of which two operations are ready. -/
import Derived.Test.YtliadckofhblnaaGreatDoorLimb3
import Derived.Test.YtliadckofhblnaaGreatDoorSymMath
import Derived.Test.YtliadckofhblnaaGreatDoorMade
import Derived.Deep.MidRow
import Derived.Test.YtliadckofhblnaaGreatDoorLast
import Derived.Test.YtliadckofhblnaaGreatDoorLit
import Derived.Laws.EntriesVeiled
import Derived.Test.YtliadckofhblnaaGreatDoorReads
namespace Go.Proofs.YtliadckofhblnaaGreatDoor.Pf
open Go.RowKit Go.Maps Go.ChangeMaps Go.WideMaps
theorem kilo_first {j : Int} (h : IsFirst (nameB ⟨#[107, 105, 108, 111]⟩) j) : j = 2 := by
  have h0 : nameB ⟨#[107, 105, 108, 111]⟩ 0 = false := by decide +kernel
  have h1 : nameB ⟨#[107, 105, 108, 111]⟩ 1 = false := by decide +kernel
  have h2 : nameB ⟨#[107, 105, 108, 111]⟩ 2 = true := by decide +kernel
  rcases h with ⟨k, hk, rfl, hp, hn⟩ | ⟨_, hn⟩
  · by_cases e0 : k = 0
    · rw [e0, h0] at hp; cases hp
    · by_cases e1 : k = 1
      · rw [e1, h1] at hp; cases hp
      · by_cases e2 : k = 2
        · rw [e2]; rfl
        · have := hn 2 (by omega); rw [h2] at this; cases this
  · have := hn 2 (by decide); rw [h2] at this; cases this
set_option maxRecDepth 100000 in
set_option maxHeartbeats 4000000 in
theorem find_kilo (w : World) (htab : Tab w) : Calls Tryz.prog 267 #[.string ⟨#[107, 105, 108, 111]⟩] w fun r w' => r = .returned (.tuple #[preV 2, .bool true]) ∧ Below w.heap.size w w' := by
  have HTW := hide htab
  obtain ⟨s, hs⟩ : ∃ s : ByteArray, s = ⟨#[107, 105, 108, 111]⟩ := ⟨_, rfl⟩
  have HSY := hide (fun W => symbols_look s (by rw [hs]; decide) W)
  have hH : symH s = false := by rw [hs]; decide +kernel
  have HKF : Hid (∀ j, IsFirst (nameB s) j → j = 2) := by rw [hs]; exact fun j h => kilo_first h
  rw [← hs]
  clear htab hs
  obtain ⟨V, hV⟩ : ∃ V, V = (w.alloc (.cells #[.string s] 9)).alloc (.cells #[.string ⟨#[]⟩, .string ⟨#[]⟩, .string ⟨#[]⟩, .string ⟨#[]⟩, .bool false] 291) := ⟨_, rfl⟩
  have HBX : Hid (V.cell? ⟨w.heap.size, 0, none⟩ = some (.string s) ∧ w.heap.size < V.heap.size) := by rw [hV]; exact ⟨by simp [go_sem], by simp; omega⟩
  have HZV : Hid (T5 V (w.heap.size + 1) (.string ⟨#[]⟩) (.string ⟨#[]⟩) (.string ⟨#[]⟩) (.string ⟨#[]⟩) (.bool false)) := by rw [hV]; exact ⟨by simp [go_sem], by simp [go_sem], by simp [go_sem], by simp [go_sem], by simp [go_sem], by simp [go_sem], by simp [go_sem], by simp [go_sem], by simp [go_sem], by simp [go_sem]⟩
  have HBV : Hid (Below w.heap.size w V) := by rw [hV]; exact ((Below.refl _ _).alloc (Nat.le_refl _) _).alloc (by simp) _
  have HV := hide hV
  clear hV
  go_enter Tryz.func267, Tryz.ntmps267
  go_upto_region 1 with fail
  rw [← un HV]
  clear HV
  have t0 := (un HBX).1
  rw [hH] at HSY
  generalize symC s = c at *
  clear hH
  go_region_held3 (fun w' => w'.cell? ⟨w.heap.size, 0, none⟩ = some (.string s)) (first | assumption | (simp [go_sem, *]; done)) ((first
  | (go_at_call 295; go_must (refine (un HSY _).mono ?_; rintro e w1 ⟨rfl, hlk, hb1⟩; have HW1 : Hid (Below V.heap.size V w1) := (Below.refl _ _).drew.trans (hb1.mono (Below.refl V.heap.size V).drew.size); have hlk2 : (Instr.lookup 318 (.map (some V.heap.size)) (.string s) true).run Tryz.prog w1 = .ok (.tuple #[I c, .bool false]) w1 := hlk; clear hlk hb1 t0; have t0 : w1.cell? ⟨w.heap.size, 0, none⟩ = some (.string s) := ((un HW1).cell (p := ⟨w.heap.size, 0, none⟩) (un HBX).2).trans (un HBX).1))))
  have HBW1 : Hid (Below w.heap.size w w1) := (un HBV).trans ((un HW1).mono (un HBV).size)
  have HZ1 := hide ((un HZV).later (un HW1))
  have HIX : Hid (∀ W, W = w1.alloc (.cells rowsArr 324) → Calls Tryz.prog 296 #[.slice (some ⟨w1.heap.size, 0, none⟩) 32 32, .func (.func 298) #[] #[.pointer (some ⟨w.heap.size, 0, none⟩)]] W fun r w' => ∃ j : Int, r = .returned (I j) ∧ IsFirst (nameB s) j ∧ Below w1.heap.size w1 w') := by
    intro W hW
    have hb : Below w1.heap.size w1 W := by rw [hW]; exact (Below.refl _ _).alloc (Nat.le_refl _) _
    have hl : w.heap.size < w1.heap.size := Nat.lt_of_lt_of_le (un HBX).2 (un HW1).size
    refine (index_any s w1.heap.size w.heap.size W (by rw [hW]; exact rowsIn_made w1) (by rw [hW]; simp) ((hb.cell (p := ⟨w.heap.size, 0, none⟩) hl).trans t0) (Nat.lt_of_lt_of_le hl hb.size)).mono ?_
    rintro e w' ⟨j, h1, h2, h3⟩
    exact ⟨j, h1, h2, hb.trans (h3.mono hb.size)⟩
  go_upto_region 4 with (first
    | (go_at_call 297; go_must (refine (rows_any _).mono ?_; rintro e w2 ⟨rfl, hw2⟩; have HW2 := hide hw2; clear hw2))
    | (go_at_call 296; go_must (refine (un HIX _ (un HW2)).mono ?_; rintro e w4 ⟨j, rfl, hj, hb4⟩; have HJ4 := hide hj; have HB4 := hide hb4; clear hj hb4)))
  have HBW : Hid (Below w.heap.size w w4) := (un HBW1).trans ((un HB4).mono (un HBW1).size)
  have HTX : Hid (Tab w4) := (un HTW).later (un HBW)
  have HZX := hide ((un HZ1).later (un HB4))
  clear HW2 HIX HB4 HZ1 t0 hlk2
  have hj2 := un HKF j (un HJ4)
  obtain ⟨k, hkj, hk2⟩ : ∃ k : Nat, j = (k : Int) ∧ k = 2 := ⟨2, hj2, rfl⟩
  have hn32 : k < 32 := by omega
  have HT : Hid (∀ W, Tab W → Calls Tryz.prog 299 #[rowV k] W fun r w' => r = .returned (preV k) ∧ Below W.heap.size W w') := by rw [hk2]; exact kilo_row
  have HPV : Hid (Ending.returned (.tuple #[preV 2, .bool true]) = .returned (.tuple #[.agg #[.string (tbl k).nm, .string (tbl k).sy, .string (tbl k).fn, .string (tbl k).fd, .bool (tbl k).bi], .bool true])) := by rw [hk2]; rfl
  clear hk2 hj2
  subst hkj
  have hn0 : (0 : Int) ≤ (k : Int) := by omega
  have hnI : (k : Int) < 32 := by omega
  clear HJ4
  unfold rowV RowV preV at HT
  have HRA := hide (fun (W W' : World) hb => rows_at W W' hb k hn32)
  generalize (tbl k).nm = nm at *
  generalize (tbl k).sy = sy at *
  generalize (tbl k).f = f at *
  generalize (tbl k).fn = fn at *
  generalize (tbl k).fd = fd at *
  generalize (tbl k).bi = bi at *
  have HGX : Hid (w.heap.size + 1 < w4.heap.size) := (un HZX).lt
  go_wp2_with (first
    | (go_at_call 297; go_must (refine (rows_any _).mono ?_; rintro e w2 ⟨rfl, hw2⟩; obtain ⟨c0, c1, c2⟩ := un HRA w4 w2 (by rw [hw2]; exact Below.refl _ _); have HB2 : Hid (Below w4.heap.size w4 w2) := (by rw [hw2]; exact (Below.refl _ _).alloc (Nat.le_refl _) _); clear hw2))
    | (go_at_call 299; go_must (refine (un HT _ ((un HTX).later (un HB2))).mono ?_; rintro e w3 ⟨rfl, hb3⟩; have HB3 : Hid (Below w4.heap.size w4 w3) := (un HB2).trans (hb3.mono (un HB2).size); have HZ3 := hide ((un HZX).later (un HB3)); clear hb3; have z0 := (un HZ3).c0; have z1 := (un HZ3).c1; have z2 := (un HZ3).c2; have z3 := (un HZ3).c3; have z4 := (un HZ3).c4; have f0 := (un HZ3).f0; have f1 := (un HZ3).f1; have f2 := (un HZ3).f2; have f3 := (un HZ3).f3; have f4 := (un HZ3).f4)))
  have hS := (un HZ3).store (.string nm) (.string sy) (.string fn) (.string fd) (.bool bi)
  have v0 := hS.c0; have v1 := hS.c1; have v2 := hS.c2; have v3 := hS.c3; have v4 := hS.c4
  exact bodyPost_ret (v := .tuple #[.agg #[.string nm, .string sy, .string fn, .string fd, .bool bi], .bool true]) (w := store5 w3 (w.heap.size + 1) (.string nm) (.string sy) (.string fn) (.string fd) (.bool bi)) (by simp [results, Tryz.results267, go_sem, v0, v1, v2, v3, v4]) rfl ⟨(un HPV).symm, below_store5 ((un HBW).trans ((un HB3).mono (un HBW).size)) (Nat.le_succ _) (.string nm) (.string sy) (.string fn) (.string fd) (.bool bi)⟩
end Go.Proofs.YtliadckofhblnaaGreatDoor.Pf

namespace Go.Proofs.YtliadckofhblnaaGreatDoor
open Go.RowKit
def putAt (vs:Array Value):Nat→List Value→Array Value
 | _,[]=>vs
 | o,v :: l=>putAt (vs.setIfInBounds o v) (o+1) l
theorem size_putAt:∀(l:List Value) (vs:Array Value) (o:Nat),(putAt vs o l).size=vs.size
 | [],_,_=>rfl
 | v :: l,vs,o=>by rw[putAt,size_putAt l];simp
theorem OwnU.mid {W:World} {g ty:Nat} {vs:Array Value} (h:OwnU W g ty vs) (o:Nat) (cs:List Value) (hc:∀j v,cs[j]?=some v→vs[o+j]?=some v):W.rangeAt g o cs:=fun j v e=>h.ub.c (o+j) v (hc j v e)
theorem OwnU.there {W:World} {g ty:Nat} {vs:Array Value} (h:OwnU W g ty vs) (o n:Nat) (hn:o+n≤vs.size):W.there g o n:=fun j hj=>by
 have e:=Array.getElem?_eq_getElem (xs:=vs) (i:=o+j) (by omega)
 exact⟨by rw[h.ub.c _ _ e];rfl,h.ub.f _ _ e⟩
theorem OwnU.setCells {g ty:Nat}:∀(l:List Value) (vs:Array Value) (W:World) (o:Nat),OwnU W g ty vs→OwnU (W.setCells g o l) g ty (putAt vs o l)
 | [],_,_,_,h=>h
 | v :: l,_,_,o,h=>OwnU.setCells l _ _ (o+1) (h.set o v)
theorem OwnU.otherCells {g ty k:Nat} {vs:Array Value} (hk:¬g=k):∀(l:List Value) (W:World) (o:Nat),OwnU W g ty vs→OwnU (W.setCells k o l) g ty vs
 | [],_,_,h=>h
 | v :: l,_,o,h=>OwnU.otherCells hk l _ (o+1) (h.otherSet hk o v)
theorem below_setCells {B g:Nat} {w0:World} (hB:B≤g):∀(l:List Value) (W:World) (o:Nat),Below B w0 W→Below B w0 (W.setCells g o l)
 | [],_,_,h=>h
 | v :: l,_,o,h=>below_setCells hB l _ (o+1) (h.setCell (p:=⟨g,o,none⟩) hB v)
end Go.Proofs.YtliadckofhblnaaGreatDoor

namespace Go.Proofs.YtliadckofhblnaaGreatDoor
open Go.RowKit
theorem one_lt (E:Nat) (h:E=600):(1:Nat)<10 ^ E:=Nat.one_lt_pow (by omega) (by decide)
theorem pow20_600 (E:Nat) (h:E=600):10 ^ 20≤10 ^ E:=Nat.pow_le_pow_right (by decide) (by omega)
theorem small_of {x:Rat} (h1:x.num.natAbs<10 ^ 20) (h2:x.den<10 ^ 20):Small x:=⟨Nat.lt_of_lt_of_le h1 (pow20_600 600 rfl),Nat.lt_of_lt_of_le h2 (pow20_600 600 rfl)⟩
theorem isR_whole (N:Nat) (hN:N<9223372036854775808):IsR (sT false N) ⟨#[49]⟩ (Cub.valQ false N 1):=by
 have hs:N<10 ^ 600:=u64_600 N (by omega)
 have hl:Cub.Low false N 1:=⟨by decide,Nat.gcd_one_right _,fun h=>by cases h⟩
 obtain⟨e1,e2,e3⟩:=Cub.low_is hl
 have hsm:Small (Cub.valQ false N 1):=⟨by rw[←e2];exact hs,by rw[←e3];exact one_lt 600 rfl⟩
 refine⟨hsm,?_,?_⟩
 ·unfold numT;rw[if_pos hsm,←e1,←e2]
 ·unfold denT;rw[if_pos hsm,←e3];exact(lit_tb ⟨#[49]⟩ 1 (by decide) (by decide)).1
theorem isR_lit2 (s t:ByteArray) (N D:Nat) (x:Rat) (hN:x.num.natAbs=N) (hD:x.den=D) (hx:decide (x<0)=false) (bN:N<10 ^ 20) (bD:D<10 ^ 20)
  (h1:Cub.rightB s.data.toList=true) (v1:Cub.dval s.data.toList=N) (h2:Cub.rightB t.data.toList=true) (v2:Cub.dval t.data.toList=D):IsR s t x:=by
 have hsm:Small x:=small_of (by rw[hN];exact bN) (by rw[hD];exact bD)
 refine⟨hsm,?_,?_⟩
 ·unfold numT;rw[if_pos hsm,hx,hN];unfold sT;rw[if_neg (by decide)];exact(lit_tb s N h1 v1).1
 ·unfold denT;rw[if_pos hsm,hD];exact(lit_tb t D h2 v2).1
theorem factor_any (a0 a1 a2 a3 a4 a5 a6 a7:Int) (N D:Nat) (q:Rat) (s t:ByteArray) (w:World) (hN:N<9223372036854775808) (hD:D<9223372036854775808) (hD0:Cub.valQ false D 1≠0) (hq:Cub.valQ false N 1*(Cub.valQ false D 1)⁻¹=q) (hs:IsR s t q) (htab:Tab w) :
  Calls Tryz.prog 226 #[.agg #[I a0,I a1,I a2,I a3,I a4,I a5,I a6,I a7,I (N:Int),I (D:Int)]] w fun r w'=>r=.returned (.agg #[.string s,.string t])∧Below w.heap.size w w':=by
 refine factor_walk a0 a1 a2 a3 a4 a5 a6 a7 (N:Int) (D:Int) (sT false N) ⟨#[49]⟩ (sT false D) ⟨#[49]⟩ s t w (fun W hb=>ratOf_pos N W hN (htab.later hb)) (fun W hb=>ratOf_pos D W hD (htab.later hb)) (fun W hb=>?_)
 have h:=rquo_ok (sT false N) ⟨#[49]⟩ (sT false D) ⟨#[49]⟩ _ _ W (isR_whole N hN) (isR_whole D hD) hD0 (htab.later hb)
 unfold Ans at h
 rw[hq,show errT q=0 from by unfold errT;rw[if_pos hs.1],←hs.2.1,←hs.2.2]at h
 exact h
theorem isR_one:IsR ⟨#[49]⟩ ⟨#[49]⟩ 1:=isR_lit2 _ _ 1 1 _ (by decide +kernel) (by decide +kernel) (by decide +kernel) (by decide) (by decide) (by decide) (by decide) (by decide) (by decide)
theorem isR_milli:IsR ⟨#[49]⟩ ⟨#[49,48,48,48]⟩ (1 / 1000):=isR_lit2 _ _ 1 1000 _ (by decide +kernel) (by decide +kernel) (by decide +kernel) (by decide) (by decide) (by decide) (by decide) (by decide) (by decide)
theorem zero_of (w:World) (htab:Tab w):Calls Tryz.prog 103 #[I 0] w fun r w'=>r=.returned (.agg #[.string ⟨#[48]⟩,.string ⟨#[49]⟩])∧Below w.heap.size w w':=by
 have h:=ratOf_pos 0 w (by decide) htab
 rw[show sT false 0=⟨#[48]⟩from by unfold sT;rw[if_neg (by decide)];exact(lit_tb ⟨#[48]⟩ 0 (by decide) (by decide)).1.symm]at h
 exact h
theorem info27:(Tryz.prog.info? 30).map (·.size)=some 15:=by kernel_rfl
theorem res27 {fn:Func} {p:Tmp} (h:fn.results=#[.cell p 30]) (tmps:Array Value) (w:World) (g:Nat) (vs:Array Value) (hl:vs.size=15) (hp:tmps.getD p undef=.pointer (some ⟨g,0,none⟩)) (ho:OwnU w g 30 vs) :
  (results fn tmps).run Tryz.prog w=.ok (.agg vs) w:=by
 rw[results_cell1 h,hp]
 simp only[asAddr,Sem.run_pure,Result.andThen_ok]
 rw[run_loadVar_row w g 30 30 vs (0,0) _ ho Tryz.underlying30 rfl (by rw[info27,hl])]
theorem res27b {fn:Func} {p u:Tmp} (h:fn.results=#[.cell p 30,.tmp u]) (tmps:Array Value) (w:World) (g:Nat) (vs:Array Value) (hl:vs.size=15) (hp:tmps.getD p undef=.pointer (some ⟨g,0,none⟩)) (ho:OwnU w g 30 vs) :
  (results fn tmps).run Tryz.prog w=.ok (.tuple #[.agg vs,tmps.getD u undef]) w:=by
 rw[results_cell_tmp h,hp]
 simp only[asAddr,Sem.run_pure,Result.andThen_ok]
 rw[run_loadVar_row w g 30 30 vs (0,0) _ ho Tryz.underlying30 rfl (by rw[info27,hl])]
 rfl
structure BL (w W:World) (row am:Array Value) (g:Nat):Prop where
 a:OwnU W w.heap.size 171 row
 r:OwnU W (w.heap.size+1) 30 #[.string ⟨#[]⟩,.string ⟨#[]⟩,I 0,I 0,I 0,I 0,I 0,I 0,I 0,I 0,.string ⟨#[]⟩,.string ⟨#[]⟩,.string ⟨#[]⟩,.string ⟨#[]⟩,I 0]
 x:OwnU W g 235 am
 b:Below w.heap.size w W
 n:w.heap.size+1<g
theorem BL.later {w W V:World} {row am:Array Value} {g:Nat} (h:BL w W row am g) (hb:Below W.heap.size W V):BL w V row am g:=⟨h.a.later hb,h.r.later hb,h.x.later hb,h.b.trans (hb.mono h.b.size),h.n⟩
set_option maxRecDepth 100000 in
set_option maxHeartbeats 4000000 in
theorem toldB (dv:Nat→Int) (n d tk:Int) (f:Nat) (nm sy fn fd:ByteArray) (w:World)
  (hcf:∀W,(callFunc f #[]).run Tryz.prog W=.ok (.enter f #[]) W)
  (hma:∀W,Calls Tryz.prog f #[] W fun r w'=>r=.returned (.agg #[I (dv 0),I (dv 1),I (dv 2),I (dv 3),I (dv 4),I (dv 5),I (dv 6),I (dv 7),I n,I d])∧Below W.heap.size W w')
  (hfa:∀W,Below w.heap.size w W→Calls Tryz.prog 226 #[.agg #[I (dv 0),I (dv 1),I (dv 2),I (dv 3),I (dv 4),I (dv 5),I (dv 6),I (dv 7),I n,I d]] W fun r w'=>r=.returned (.agg #[.string fn,.string fd])∧Below W.heap.size W w')
  (hze:∀W,Below w.heap.size w W→Calls Tryz.prog 103 #[I 0] W fun r w'=>r=.returned (.agg #[.string ⟨#[48]⟩,.string ⟨#[49]⟩])∧Below W.heap.size W w') :
  Calls Tryz.prog 159 #[.agg #[.string nm,.string sy,I tk,.func (.func f) #[] #[]]] w fun r w'=>r=.returned (.agg #[.string nm,.string sy,I (dv 0),I (dv 1),I (dv 2),I (dv 3),I (dv 4),I (dv 5),I (dv 6),I (dv 7),.string fn,.string fd,.string ⟨#[48]⟩,.string ⟨#[49]⟩,I tk])∧Below w.heap.size w w':=by
 obtain⟨V,hV⟩:∃V,V=(w.alloc (.cells #[.string nm,.string sy,I tk,.func (.func f) #[] #[]] 171)).alloc (.cells #[.string ⟨#[]⟩,.string ⟨#[]⟩,I 0,I 0,I 0,I 0,I 0,I 0,I 0,I 0,.string ⟨#[]⟩,.string ⟨#[]⟩,.string ⟨#[]⟩,.string ⟨#[]⟩,I 0] 30):=⟨_,rfl⟩
 have HA:Hid (OwnU V w.heap.size 171 #[.string nm,.string sy,I tk,.func (.func f) #[] #[]]):=by rw[hV];exact(OwnU.new _ _ _).alloc _
 have HR:Hid (OwnU V (w.heap.size+1) 30 #[.string ⟨#[]⟩,.string ⟨#[]⟩,I 0,I 0,I 0,I 0,I 0,I 0,I 0,I 0,.string ⟨#[]⟩,.string ⟨#[]⟩,.string ⟨#[]⟩,.string ⟨#[]⟩,I 0]):=by rw[hV];have h:=OwnU.new (w.alloc (.cells #[.string nm,.string sy,I tk,.func (.func f) #[] #[]] 171)) #[.string ⟨#[]⟩,.string ⟨#[]⟩,I 0,I 0,I 0,I 0,I 0,I 0,I 0,I 0,.string ⟨#[]⟩,.string ⟨#[]⟩,.string ⟨#[]⟩,.string ⟨#[]⟩,I 0] 30;rw[Dm.size_alloc]at h;exact h
 have HB:Hid (Below w.heap.size w V):=by rw[hV];exact((Below.refl _ _).alloc (Nat.le_refl _) _).alloc (by simp) _
 have HMA:=hide hma;have HFA:=hide hfa;have HZE:=hide hze
 have HV:=hide hV
 clear hV hma hfa hze
 go_enter Tryz.func159,Tryz.ntmps159
 go_upto_region 1 with fail
 rw[←un HV]
 clear HV
 have c3:V.cell? ⟨w.heap.size,3,none⟩=some (.func (.func f) #[] #[]):=(un HA).ub.c 3 _ rfl
 go_wp2_with fail
 refine(un HMA _).mono ?_
 rintro e w1 ⟨rfl,hb⟩
 have HA1:=hide ((un HA).later hb);have HR1:=hide ((un HR).later hb);have HB1:Hid (Below w.heap.size w w1):=(un HB).trans (hb.mono (un HB).size)
 clear hb c3 HA HR HB hcf HMA
 go_upto_region 2 with (refine storeT 235 10 info43 rfl (.tmp 3) (.tmp 6) rfl w1.heap.size #[I 0,I 0,I 0,I 0,I 0,I 0,I 0,I 0,I 0,I 0] #[I (dv 0),I (dv 1),I (dv 2),I (dv 3),I (dv 4),I (dv 5),I (dv 6),I (dv 7),I n,I d] rfl rfl rfl rfl (OwnU.new _ _ _) (by kernel_rfl) ?_)
 have hb2:Below w1.heap.size w1 ((w1.alloc (.cells #[I 0,I 0,I 0,I 0,I 0,I 0,I 0,I 0,I 0,I 0] 235)).setRow w1.heap.size #[I (dv 0),I (dv 1),I (dv 2),I (dv 3),I (dv 4),I (dv 5),I (dv 6),I (dv 7),I n,I d]):=below_setRow ((Below.refl _ _).alloc (Nat.le_refl _) _) (Nat.le_refl _) _
 have HT0:Hid (BL w ((w1.alloc (.cells #[I 0,I 0,I 0,I 0,I 0,I 0,I 0,I 0,I 0,I 0] 235)).setRow w1.heap.size #[I (dv 0),I (dv 1),I (dv 2),I (dv 3),I (dv 4),I (dv 5),I (dv 6),I (dv 7),I n,I d]) #[.string nm,.string sy,I tk,.func (.func f) #[] #[]] #[I (dv 0),I (dv 1),I (dv 2),I (dv 3),I (dv 4),I (dv 5),I (dv 6),I (dv 7),I n,I d] w1.heap.size):=⟨(un HA1).later hb2,(un HR1).later hb2,(OwnU.new _ _ _).setRow _,(un HB1).trans (hb2.mono (un HB1).size),(un HR1).lt⟩
 clear hb2 HA1 HR1 HB1
 generalize (w1.alloc (.cells #[I 0,I 0,I 0,I 0,I 0,I 0,I 0,I 0,I 0,I 0] 235)).setRow w1.heap.size #[I (dv 0),I (dv 1),I (dv 2),I (dv 3),I (dv 4),I (dv 5),I (dv 6),I (dv 7),I n,I d]=w2 at *
 generalize w1.heap.size=g3 at *
 have HT1:Hid (BL w w2.drew #[.string nm,.string sy,I tk,.func (.func f) #[] #[]] #[I (dv 0),I (dv 1),I (dv 2),I (dv 3),I (dv 4),I (dv 5),I (dv 6),I (dv 7),I n,I d] g3):=(un HT0).later (Below.refl _ _).drew
 have HSS:Hid (∀W':World,BL w W' #[.string nm,.string sy,I tk,.func (.func f) #[] #[]] #[I (dv 0),I (dv 1),I (dv 2),I (dv 3),I (dv 4),I (dv 5),I (dv 6),I (dv 7),I n,I d] g3→W'.cell? ⟨w.heap.size,0,none⟩=some (.string nm)∧W'.cell? ⟨w.heap.size,1,none⟩=some (.string sy)∧W'.cell? ⟨w.heap.size,2,none⟩=some (I tk)∧W'.cell? ⟨g3,0,none⟩=some (I (dv 0))∧W'.cell? ⟨g3,1,none⟩=some (I (dv 1))∧W'.cell? ⟨g3,2,none⟩=some (I (dv 2))∧W'.cell? ⟨g3,3,none⟩=some (I (dv 3))∧W'.cell? ⟨g3,4,none⟩=some (I (dv 4))∧W'.cell? ⟨g3,5,none⟩=some (I (dv 5))∧W'.cell? ⟨g3,6,none⟩=some (I (dv 6))∧W'.cell? ⟨g3,7,none⟩=some (I (dv 7))∧W'.cell? ⟨g3,8,none⟩=some (I n)∧W'.cell? ⟨g3,9,none⟩=some (I d)):=fun W' h=>⟨h.a.ub.c 0 _ rfl,h.a.ub.c 1 _ rfl,h.a.ub.c 2 _ rfl,h.x.ub.c 0 _ rfl,h.x.ub.c 1 _ rfl,h.x.ub.c 2 _ rfl,h.x.ub.c 3 _ rfl,h.x.ub.c 4 _ rfl,h.x.ub.c 5 _ rfl,h.x.ub.c 6 _ rfl,h.x.ub.c 7 _ rfl,h.x.ub.c 8 _ rfl,h.x.ub.c 9 _ rfl⟩
 have HS0:=hide (un HSS _ (un HT1))
 clear HT0
 refine region_reads 12 (fun W'=>W'.cell? ⟨w.heap.size,0,none⟩=some (.string nm)∧W'.cell? ⟨w.heap.size,1,none⟩=some (.string sy)∧W'.cell? ⟨w.heap.size,2,none⟩=some (I tk)∧W'.cell? ⟨g3,0,none⟩=some (I (dv 0))∧W'.cell? ⟨g3,1,none⟩=some (I (dv 1))∧W'.cell? ⟨g3,2,none⟩=some (I (dv 2))∧W'.cell? ⟨g3,3,none⟩=some (I (dv 3))∧W'.cell? ⟨g3,4,none⟩=some (I (dv 4))∧W'.cell? ⟨g3,5,none⟩=some (I (dv 5))∧W'.cell? ⟨g3,6,none⟩=some (I (dv 6))∧W'.cell? ⟨g3,7,none⟩=some (I (dv 7))∧W'.cell? ⟨g3,8,none⟩=some (I n)∧W'.cell? ⟨g3,9,none⟩=some (I d)) (fun _=>True) 13 rfl (by kernel_rfl) ?_
 generalize w2.drew=U1 at *
 refine wpR_take (i:=0) (oi:=_) (v:=.pointer (some ⟨w.heap.size,0,none⟩)) rfl (by kernel_rfl) (by kernel_rfl) (by kernel_rfl) (by kernel_rfl) (fun _ _ _ h=>h) (Or.inl ⟨by rfl,?_⟩) ⟨un HS0,trivial⟩ ?_
 ·intro W' hW
  go_split_ands
  go_simp
 refine wpR_take (i:=1) (oi:=_) (v:=.string nm) rfl (by kernel_rfl) (by kernel_rfl) (by kernel_rfl) (by kernel_rfl) (fun _ _ _ h=>h) (Or.inl ⟨by rfl,?_⟩) ⟨un HS0,trivial⟩ ?_
 ·intro W' hW
  go_split_ands
  go_simp
 refine wpR_take (i:=2) (oi:=_) (v:=.pointer (some ⟨w.heap.size,1,none⟩)) rfl (by kernel_rfl) (by kernel_rfl) (by kernel_rfl) (by kernel_rfl) (fun _ _ _ h=>h) (Or.inl ⟨by rfl,?_⟩) ⟨un HS0,trivial⟩ ?_
 ·intro W' hW
  go_split_ands
  go_simp
 refine wpR_take (i:=3) (oi:=_) (v:=.string sy) rfl (by kernel_rfl) (by kernel_rfl) (by kernel_rfl) (by kernel_rfl) (fun _ _ _ h=>h) (Or.inl ⟨by rfl,?_⟩) ⟨un HS0,trivial⟩ ?_
 ·intro W' hW
  go_split_ands
  go_simp
 refine wpR_take (i:=4) (oi:=_) (v:=.pointer (some ⟨g3,0,none⟩)) rfl (by kernel_rfl) (by kernel_rfl) (by kernel_rfl) (by kernel_rfl) (fun _ _ _ h=>h) (Or.inl ⟨by rfl,?_⟩) ⟨un HS0,trivial⟩ ?_
 ·intro W' hW
  go_split_ands
  go_simp
 refine wpR_take (i:=5) (oi:=_) (v:=.agg #[I (dv 0),I (dv 1),I (dv 2),I (dv 3),I (dv 4),I (dv 5),I (dv 6),I (dv 7)]) rfl (by kernel_rfl) (by kernel_rfl) (by kernel_rfl) (by kernel_rfl) (fun _ _ _ h=>h) (Or.inl ⟨by rfl,?_⟩) ⟨un HS0,trivial⟩ ?_
 ·intro W' hW
  go_split_ands
  go_simp
 refine wpR_take (i:=6) (oi:=_) (v:=.agg #[I (dv 0),I (dv 1),I (dv 2),I (dv 3),I (dv 4),I (dv 5),I (dv 6),I (dv 7),I n,I d]) rfl (by kernel_rfl) (by kernel_rfl) (by kernel_rfl) (by kernel_rfl) (fun _ _ _ h=>h) (Or.inl ⟨by rfl,?_⟩) ⟨un HS0,trivial⟩ ?_
 ·intro W' hW
  go_split_ands
  go_simp
 refine wpR_take (i:=9) (oi:=_) (v:=.pointer (some ⟨w.heap.size,2,none⟩)) rfl (by kernel_rfl) (by kernel_rfl) (by kernel_rfl) (by kernel_rfl) (fun _ _ _ h=>h) (Or.inl ⟨by rfl,?_⟩) ⟨un HS0,trivial⟩ ?_
 ·intro W' hW
  go_split_ands
  go_simp
 refine wpR_take (i:=10) (oi:=_) (v:=I tk) rfl (by kernel_rfl) (by kernel_rfl) (by kernel_rfl) (by kernel_rfl) (fun _ _ _ h=>h) (Or.inl ⟨by rfl,?_⟩) ⟨un HS0,trivial⟩ ?_
 ·intro W' hW
  go_split_ands
  go_simp
 refine wpR_op (i:=7) (o:=_) (by kernel_rfl) rfl rfl (fun K hK=>?_)
 go_simp
 refine(un HFA _ (un HT1).b).mono ?_
 rintro e U2 ⟨rfl,hb⟩
 have HT2:=hide ((un HT1).later hb)
 clear hb HT1
 refine hK _ _ ⟨un HSS _ (un HT2),trivial⟩ ?_
 clear hK K
 refine wpR_op (i:=8) (o:=_) (by kernel_rfl) rfl rfl (fun K hK=>?_)
 go_simp
 refine(un HZE _ (un HT2).b).mono ?_
 rintro e U3 ⟨rfl,hb⟩
 have HT3:=hide ((un HT2).later hb)
 clear hb HT2
 refine hK _ _ ⟨un HSS _ (un HT3),trivial⟩ ?_
 clear hK K
 refine wpR_op (i:=11) (o:=_) (by kernel_rfl) rfl rfl (fun K hK=>?_)
 go_simp
 refine hK _ _ ⟨un HSS _ (un HT3),trivial⟩ ?_
 clear hK K
 refine wpR_late (i:=12) (o:=_) (by kernel_rfl) rfl rfl (by kernel_rfl) (fun K hK=>?_)
 refine wp_store_row 30 (.tmp 2) (.tmp 18) rfl (w.heap.size+1) #[.string nm,.string sy,I (dv 0),I (dv 1),I (dv 2),I (dv 3),I (dv 4),I (dv 5),I (dv 6),I (dv 7),.string fn,.string fd,.string ⟨#[48]⟩,.string ⟨#[49]⟩,I tk] (by kernel_rfl) (by kernel_rfl) 30 _ (un HT3).r (by rw[info27];rfl) rfl (by kernel_rfl) (hK _ _ trivial ?_)
 clear hK K
 refine wpR_done (by kernel_rfl) ?_
 go_wp2_with fail
 exact bodyPost_ret (v:=.agg #[.string nm,.string sy,I (dv 0),I (dv 1),I (dv 2),I (dv 3),I (dv 4),I (dv 5),I (dv 6),I (dv 7),.string fn,.string fd,.string ⟨#[48]⟩,.string ⟨#[49]⟩,I tk]) (res27 Tryz.results159 _ _ (w.heap.size+1) _ rfl rfl ((un HT3).r.setRow _)) rfl ⟨rfl,below_setRow (un HT3).b (by omega) _⟩
end Go.Proofs.YtliadckofhblnaaGreatDoor

namespace Go.Proofs.YtliadckofhblnaaGreatDoor
section
variable {P:Program} {ops:Array Oper} {Q:Exit→Act→World→Prop} {md:Region.Mode} {S S7:World→Prop} {k:Nat}
theorem wpR_some {n:Nat} {l:Array Bool} {a:Act} {w:World} (rs:List Nat) (hr:Region.ready md ops l=rs) (hne:rs≠[])
  (h:∀i∈rs,∃o,ops[i]?=some o∧o.guard=none∧∀K:Act→World→Prop,(∀a' w',S w'∧S7 w'→wpR P md ops Q k S S7 n (l.setIfInBounds i true) a' w'→K a' w')→Oper.wp P o a w K Q):wpR P md ops Q k S S7 (n+1) l a w:=by
 refine⟨fun h0=>absurd (hr.symm.trans h0) hne,fun j hj=>?_⟩
 rw[hr]at hj
 obtain⟨o,ho,hg,hs⟩:=h j hj
 unfold wpOp
 simp only[ho]
 have hw:Region.wanted o (yielded ops a.tmps)=true:=by simp[Region.wanted,hg]
 rw[if_pos hw]
 exact Or.inl (hs _ fun a' w' h1 h2=>⟨⟨fun _=>h1.1,h1.2⟩,h2⟩)
theorem wpR_two {i j n:Nat} {oi oj:Oper} {l:Array Bool} {a:Act} {w:World} (hr:Region.ready md ops l=[i,j]) (hi:ops[i]?=some oi) (gi:oi.guard=none) (hj:ops[j]?=some oj) (gj:oj.guard=none)
  (si:∀K:Act→World→Prop,(∀a' w',S w'∧S7 w'→wpR P md ops Q k S S7 n (l.setIfInBounds i true) a' w'→K a' w')→Oper.wp P oi a w K Q)
  (sj:∀K:Act→World→Prop,(∀a' w',S w'∧S7 w'→wpR P md ops Q k S S7 n (l.setIfInBounds j true) a' w'→K a' w')→Oper.wp P oj a w K Q):wpR P md ops Q k S S7 (n+1) l a w:=by
 refine wpR_some [i,j] hr (by simp) fun q hq=>?_
 rcases List.mem_cons.1 hq with rfl|hq
 ·exact⟨oi,hi,gi,si⟩
 ·obtain rfl:=List.mem_singleton.1 hq
  exact⟨oj,hj,gj,sj⟩
end
end Go.Proofs.YtliadckofhblnaaGreatDoor

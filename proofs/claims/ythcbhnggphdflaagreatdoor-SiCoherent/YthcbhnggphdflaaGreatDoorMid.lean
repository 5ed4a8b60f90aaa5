/- Rows in the midst of a block that is known whole. -/
import Derived.Test.YthcbhnggphdflaaGreatDoorLimb3
import Derived.Test.YthcbhnggphdflaaGreatDoorPfSymMath
import Derived.Test.YthcbhnggphdflaaGreatDoorMade
import Derived.Deep.MidRow
namespace Go.Proofs.YthcbhnggphdflaaGreatDoor.Pf
open Go.RowKit Go.Maps Go.ChangeMaps Go.WideMaps
theorem kilo_first {j : Int} (h : IsFirst (nameB ⟨#[107, 105, 108, 111]⟩) j) : j = 2 := by
  have h0 : nameB ⟨#[107, 105, 108, 111]⟩ 0 = false := by decide +kernel
  have h1 : nameB ⟨#[107, 105, 108, 111]⟩ 1 = false := by decide +kernel
  have h2 : nameB ⟨#[107, 105, 108, 111]⟩ 2 = true := by decide +kernel
  rcases h with ⟨k, hk, rfl, hp, hn⟩ | ⟨_, hn⟩
  · by_cases e0 : k = 0
    · rw [e0, h0] at hp; cases hp
    · by_cases e1 : k = 1
      · rw [e1, h1] at hp; cases hp
      · by_cases e2 : k = 2
        · rw [e2]; rfl
        · have := hn 2 (by omega); rw [h2] at this; cases this
  · have := hn 2 (by decide); rw [h2] at this; cases this
set_option maxRecDepth 100000 in
set_option maxHeartbeats 4000000 in
theorem find_kilo (w : World) (htab : Tab w) : Calls Tryz.prog 70 #[.string ⟨#[107, 105, 108, 111]⟩] w fun r w' => r = .returned (.tuple #[preV 2, .bool true]) ∧ Below w.heap.size w w' := by
  have HTW := hide htab
  obtain ⟨s, hs⟩ : ∃ s : ByteArray, s = ⟨#[107, 105, 108, 111]⟩ := ⟨_, rfl⟩
  have HSY := hide (fun W => symbols_look s (by rw [hs]; decide) W)
  have hH : symH s = false := by rw [hs]; decide +kernel
  have HKF : Hid (∀ j, IsFirst (nameB s) j → j = 2) := by rw [hs]; exact fun j h => kilo_first h
  rw [← hs]
  clear htab hs
  obtain ⟨V, hV⟩ : ∃ V, V = (w.alloc (.cells #[.string s] 9)).alloc (.cells #[.string ⟨#[]⟩, .string ⟨#[]⟩, .string ⟨#[]⟩, .string ⟨#[]⟩, .bool false] 127) := ⟨_, rfl⟩
  have HBX : Hid (V.cell? ⟨w.heap.size, 0, none⟩ = some (.string s) ∧ w.heap.size < V.heap.size) := by rw [hV]; exact ⟨by simp [go_sem], by simp; omega⟩
  have HZV : Hid (T5 V (w.heap.size + 1) (.string ⟨#[]⟩) (.string ⟨#[]⟩) (.string ⟨#[]⟩) (.string ⟨#[]⟩) (.bool false)) := by rw [hV]; exact ⟨by simp [go_sem], by simp [go_sem], by simp [go_sem], by simp [go_sem], by simp [go_sem], by simp [go_sem], by simp [go_sem], by simp [go_sem], by simp [go_sem], by simp [go_sem]⟩
  have HBV : Hid (Below w.heap.size w V) := by rw [hV]; exact ((Below.refl _ _).alloc (Nat.le_refl _) _).alloc (by simp) _
  have HV := hide hV
  clear hV
  go_enter Tryz.func70, Tryz.ntmps70
  go_upto_region 1 with fail
  rw [← un HV]
  clear HV
  have t0 := (un HBX).1
  rw [hH] at HSY
  generalize symC s = c at *
  clear hH
  go_region_held3 (fun w' => w'.cell? ⟨w.heap.size, 0, none⟩ = some (.string s)) (first | assumption | (simp [go_sem, *]; done)) ((first
  | (go_at_call 99; go_must (refine (un HSY _).mono ?_; rintro e w1 ⟨rfl, hlk, hb1⟩; have HW1 : Hid (Below V.heap.size V w1) := (Below.refl _ _).drew.trans (hb1.mono (Below.refl V.heap.size V).drew.size); have hlk2 : (Instr.lookup 151 (.map (some V.heap.size)) (.string s) true).run Tryz.prog w1 = .ok (.tuple #[I c, .bool false]) w1 := hlk; clear hlk hb1 t0; have t0 : w1.cell? ⟨w.heap.size, 0, none⟩ = some (.string s) := ((un HW1).cell (p := ⟨w.heap.size, 0, none⟩) (un HBX).2).trans (un HBX).1))))
  have HBW1 : Hid (Below w.heap.size w w1) := (un HBV).trans ((un HW1).mono (un HBV).size)
  have HZ1 := hide ((un HZV).later (un HW1))
  have HIX : Hid (∀ W, W = w1.alloc (.cells rowsArr 157) → Calls Tryz.prog 100 #[.slice (some ⟨w1.heap.size, 0, none⟩) 32 32, .func (.func 102) #[] #[.pointer (some ⟨w.heap.size, 0, none⟩)]] W fun r w' => ∃ j : Int, r = .returned (I j) ∧ IsFirst (nameB s) j ∧ Below w1.heap.size w1 w') := by
    intro W hW
    have hb : Below w1.heap.size w1 W := by rw [hW]; exact (Below.refl _ _).alloc (Nat.le_refl _) _
    have hl : w.heap.size < w1.heap.size := Nat.lt_of_lt_of_le (un HBX).2 (un HW1).size
    refine (index_any s w1.heap.size w.heap.size W (by rw [hW]; exact rowsIn_made w1) (by rw [hW]; simp) ((hb.cell (p := ⟨w.heap.size, 0, none⟩) hl).trans t0) (Nat.lt_of_lt_of_le hl hb.size)).mono ?_
    rintro e w' ⟨j, h1, h2, h3⟩
    exact ⟨j, h1, h2, hb.trans (h3.mono hb.size)⟩
  go_upto_region 4 with (first
    | (go_at_call 101; go_must (refine (rows_any _).mono ?_; rintro e w2 ⟨rfl, hw2⟩; have HW2 := hide hw2; clear hw2))
    | (go_at_call 100; go_must (refine (un HIX _ (un HW2)).mono ?_; rintro e w4 ⟨j, rfl, hj, hb4⟩; have HJ4 := hide hj; have HB4 := hide hb4; clear hj hb4)))
  have HBW : Hid (Below w.heap.size w w4) := (un HBW1).trans ((un HB4).mono (un HBW1).size)
  have HTX : Hid (Tab w4) := (un HTW).later (un HBW)
  have HZX := hide ((un HZ1).later (un HB4))
  clear HW2 HIX HB4 HZ1 t0 hlk2
  have hj2 := un HKF j (un HJ4)
  obtain ⟨k, hkj, hk2⟩ : ∃ k : Nat, j = (k : Int) ∧ k = 2 := ⟨2, hj2, rfl⟩
  have hn32 : k < 32 := by omega
  have HT : Hid (∀ W, Tab W → Calls Tryz.prog 103 #[rowV k] W fun r w' => r = .returned (preV k) ∧ Below W.heap.size W w') := by rw [hk2]; exact kilo_row
  have HPV : Hid (Ending.returned (.tuple #[preV 2, .bool true]) = .returned (.tuple #[.agg #[.string (tbl k).nm, .string (tbl k).sy, .string (tbl k).fn, .string (tbl k).fd, .bool (tbl k).bi], .bool true])) := by rw [hk2]; rfl
  clear hk2 hj2
  subst hkj
  have hn0 : (0 : Int) ≤ (k : Int) := by omega
  have hnI : (k : Int) < 32 := by omega
  clear HJ4
  unfold rowV RowV preV at HT
  have HRA := hide (fun (W W' : World) hb => rows_at W W' hb k hn32)
  generalize (tbl k).nm = nm at *
  generalize (tbl k).sy = sy at *
  generalize (tbl k).f = f at *
  generalize (tbl k).fn = fn at *
  generalize (tbl k).fd = fd at *
  generalize (tbl k).bi = bi at *
  have HGX : Hid (w.heap.size + 1 < w4.heap.size) := (un HZX).lt
  go_wp2_with (first
    | (go_at_call 101; go_must (refine (rows_any _).mono ?_; rintro e w2 ⟨rfl, hw2⟩; obtain ⟨c0, c1, c2⟩ := un HRA w4 w2 (by rw [hw2]; exact Below.refl _ _); have HB2 : Hid (Below w4.heap.size w4 w2) := (by rw [hw2]; exact (Below.refl _ _).alloc (Nat.le_refl _) _); clear hw2))
    | (go_at_call 103; go_must (refine (un HT _ ((un HTX).later (un HB2))).mono ?_; rintro e w3 ⟨rfl, hb3⟩; have HB3 : Hid (Below w4.heap.size w4 w3) := (un HB2).trans (hb3.mono (un HB2).size); have HZ3 := hide ((un HZX).later (un HB3)); clear hb3; have z0 := (un HZ3).c0; have z1 := (un HZ3).c1; have z2 := (un HZ3).c2; have z3 := (un HZ3).c3; have z4 := (un HZ3).c4; have f0 := (un HZ3).f0; have f1 := (un HZ3).f1; have f2 := (un HZ3).f2; have f3 := (un HZ3).f3; have f4 := (un HZ3).f4)))
  have hS := (un HZ3).store (.string nm) (.string sy) (.string fn) (.string fd) (.bool bi)
  have v0 := hS.c0; have v1 := hS.c1; have v2 := hS.c2; have v3 := hS.c3; have v4 := hS.c4
  exact bodyPost_ret (v := .tuple #[.agg #[.string nm, .string sy, .string fn, .string fd, .bool bi], .bool true]) (w := store5 w3 (w.heap.size + 1) (.string nm) (.string sy) (.string fn) (.string fd) (.bool bi)) (by simp [results, Tryz.results70, go_sem, v0, v1, v2, v3, v4]) rfl ⟨(un HPV).symm, below_store5 ((un HBW).trans ((un HB3).mono (un HBW).size)) (Nat.le_succ _) (.string nm) (.string sy) (.string fn) (.string fd) (.bool bi)⟩
end Go.Proofs.YthcbhnggphdflaaGreatDoor.Pf

namespace Go.Proofs.YthcbhnggphdflaaGreatDoor
open Go.RowKit
def putAt (vs:Array Value):Nat→List Value→Array Value
 | _,[]=>vs
 | o,v :: l=>putAt (vs.setIfInBounds o v) (o+1) l
theorem size_putAt:∀(l:List Value) (vs:Array Value) (o:Nat),(putAt vs o l).size=vs.size
 | [],_,_=>rfl
 | v :: l,vs,o=>by rw[putAt,size_putAt l];simp
theorem OwnU.mid {W:World} {g ty:Nat} {vs:Array Value} (h:OwnU W g ty vs) (o:Nat) (cs:List Value) (hc:∀j v,cs[j]?=some v→vs[o+j]?=some v):W.rangeAt g o cs:=fun j v e=>h.ub.c (o+j) v (hc j v e)
theorem OwnU.there {W:World} {g ty:Nat} {vs:Array Value} (h:OwnU W g ty vs) (o n:Nat) (hn:o+n≤vs.size):W.there g o n:=fun j hj=>by
 have e:=Array.getElem?_eq_getElem (xs:=vs) (i:=o+j) (by omega)
 exact⟨by rw[h.ub.c _ _ e];rfl,h.ub.f _ _ e⟩
theorem OwnU.setCells {g ty:Nat}:∀(l:List Value) (vs:Array Value) (W:World) (o:Nat),OwnU W g ty vs→OwnU (W.setCells g o l) g ty (putAt vs o l)
 | [],_,_,_,h=>h
 | v :: l,_,_,o,h=>OwnU.setCells l _ _ (o+1) (h.set o v)
theorem OwnU.otherCells {g ty k:Nat} {vs:Array Value} (hk:¬g=k):∀(l:List Value) (W:World) (o:Nat),OwnU W g ty vs→OwnU (W.setCells k o l) g ty vs
 | [],_,_,h=>h
 | v :: l,_,o,h=>OwnU.otherCells hk l _ (o+1) (h.otherSet hk o v)
theorem below_setCells {B g:Nat} {w0:World} (hB:B≤g):∀(l:List Value) (W:World) (o:Nat),Below B w0 W→Below B w0 (W.setCells g o l)
 | [],_,_,h=>h
 | v :: l,_,o,h=>below_setCells hB l _ (o+1) (h.setCell (p:=⟨g,o,none⟩) hB v)
end Go.Proofs.YthcbhnggphdflaaGreatDoor

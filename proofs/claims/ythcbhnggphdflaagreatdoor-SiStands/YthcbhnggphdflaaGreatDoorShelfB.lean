/- bits.Len, laid. -/
import Derived.Test.YthcbhnggphdflaaGreatDoorLimb2
import Derived.Test.YthcbhnggphdflaaGreatDoorRegAdd
import Derived.Carry
import Derived.Laws.OwnMore
import Derived.Lib.SmallJoins
import Derived.Test.YthcbhnggphdflaaGreatDoorRead
import Derived.Test.YthcbhnggphdflaaGreatDoorQQuo
import Derived.Test.YthcbhnggphdflaaGreatDoorTimes
import Derived.Shelf.Small.Bits
import Derived.Shelf.Small.Wraps
import Derived.Shelf.Strconv.Itoa0
import Derived.Shelf.Strconv.Itoa1
import Derived.Shelf.LaysM
import Derived.Shelf.Strconv.Itoa2
import Derived.Shelf.Strconv.AppendUint10
import Derived.Shelf.Strconv.AppendInt10
import Derived.Shelf.Strings.Prefix
import Derived.Ground.Names2Prog
import Derived.Shelf.Slices.SearchI
import Derived.Test.YthcbhnggphdflaaGreatDoorProg
namespace Go.Proofs.YthcbhnggphdflaaGreatDoor
open Go.RowKit Go.Maps Go.ChangeMaps Go.WideMaps
variable {K : Nat → Nat → Array Value → Prop}
theorem RG.c3 {W : World} {base r m n : Nat} {vs : Value} {ps : List Nat} {us : List (Array Value)} {D : DataW Unit} (h : RG W K base r m vs ps us n D) : W.cell? ⟨r, 3, none⟩ = some (.bool false) := h.k0.ub.c 3 _ rfl
theorem RG.c2 {W : World} {base r m n : Nat} {vs : Value} {ps : List Nat} {us : List (Array Value)} {D : DataW Unit} (h : RG W K base r m vs ps us n D) : W.cell? ⟨r, 2, none⟩ = some (.map (some m)) := h.k0.ub.c 2 _ rfl
theorem RG.c0 {W : World} {base r m n : Nat} {vs : Value} {ps : List Nat} {us : List (Array Value)} {D : DataW Unit} (h : RG W K base r m vs ps us n D) : W.cell? ⟨r, 0, none⟩ = some vs := h.k0.ub.c 0 _ rfl
set_option maxRecDepth 100000 in
set_option maxHeartbeats 4000000 in
theorem take_any (nm sy fn fd on od : ByteArray) (d0 d1 d2 d3 d4 d5 d6 d7 tk : Int) (base r m n gs gu gr : Nat) (vs : Value) (ps : List Nat) (us : List (Array Value)) (D : DataW Unit) (w0 w : World) (h : RG w K base r m vs ps us n D) (hlen : us.length = ps.length) (hb0 : Below base w0 w) (hmb : base ≤ m) (hrb : base ≤ r) (hn : n + 2 < 1000000) (hps : ps.length < 500)
  (hs1 : nm.size ≤ maxLen) (hs2 : sy.size ≤ maxLen)
  (cs0 : w.cell? ⟨gs, 0, none⟩ = some (.string nm)) (cs1 : w.cell? ⟨gs, 1, none⟩ = some (.string sy)) (hgs : gs < w.heap.size) (hu : OwnU w gu 30 #[.string nm, .string sy, I d0, I d1, I d2, I d3, I d4, I d5, I d6, I d7, .string fn, .string fd, .string on, .string od, I tk]) (cr : w.cell? ⟨gr, 0, none⟩ = some (.pointer (some ⟨r, 0, none⟩))) (hgr : gr < w.heap.size)
  (h23 : ∀ W, Below w.heap.size w W → Calls Tryz.prog 45 #[.agg #[.string nm, .string sy, I d0, I d1, I d2, I d3, I d4, I d5, I d6, I d7, .string fn, .string fd, .string on, .string od, I tk]] W fun r w' => r = .returned (.bool true) ∧ Below W.heap.size W w')
  (hn1 : Maps.has D (.string nm.data.toList) = false) (hn2 : Maps.has D (.string sy.data.toList) = false) :
  Calls Tryz.prog 43 #[.pointer (some ⟨r, 0, none⟩), .agg #[.slice (some ⟨gs, 0, none⟩) 2 2, .func (.func 44) #[] #[.pointer (some ⟨gu, 0, none⟩)], .func (.func 46) #[] #[.pointer (some ⟨gr, 0, none⟩)], .func (.func 48) #[] #[.pointer (some ⟨gr, 0, none⟩), .pointer (some ⟨gu, 0, none⟩)]]] w fun e w' => e = .returned (I 0) ∧ (∃ p v', RG w' K base r m v' (ps ++ [p]) (us ++ [#[.string nm, .string sy, I d0, I d1, I d2, I d3, I d4, I d5, I d6, I d7, .string fn, .string fd, .string on, .string od, I tk]]) (n + 2) ((D.put (.string nm.data.toList) (.lit (.bool true))).put (.string sy.data.toList) (.lit (.bool true)))) ∧ Below base w0 w' := by
 obtain ⟨av, cv, rfl⟩ := row_len h.row
 obtain ⟨V, hV⟩ : ∃ V, V = w.alloc (.cells #[.slice (some ⟨gs, 0, none⟩) 2 2, .func (.func 44) #[] #[.pointer (some ⟨gu, 0, none⟩)], .func (.func 46) #[] #[.pointer (some ⟨gr, 0, none⟩)], .func (.func 48) #[] #[.pointer (some ⟨gr, 0, none⟩), .pointer (some ⟨gu, 0, none⟩)]] 103) := ⟨_, rfl⟩
 have hbV : Below w.heap.size w V := by rw [hV]; exact (Below.refl _ _).alloc (Nat.le_refl _) _
 have HA : Hid (OwnU V w.heap.size 103 #[.slice (some ⟨gs, 0, none⟩) 2 2, .func (.func 44) #[] #[.pointer (some ⟨gu, 0, none⟩)], .func (.func 46) #[] #[.pointer (some ⟨gr, 0, none⟩)], .func (.func 48) #[] #[.pointer (some ⟨gr, 0, none⟩), .pointer (some ⟨gu, 0, none⟩)]]) := by rw [hV]; exact OwnU.new _ _ _
 obtain ⟨g3, hg3⟩ : ∃ g3, g3 = w.heap.size := ⟨_, rfl⟩
 have HR0 := hide (h.later hbV)
 have HB0 : Hid (Below base w0 V) := hb0.trans (hbV.mono h.bs)
 have HC0 : Hid (∀ W, Below V.heap.size V W → W.cell? ⟨gs, 0, none⟩ = some (.string nm) ∧ W.cell? ⟨gs, 1, none⟩ = some (.string sy) ∧ W.cell? ⟨gr, 0, none⟩ = some (.pointer (some ⟨r, 0, none⟩))) := fun W hW =>
  have hb := hbV.trans (hW.mono hbV.size)
  ⟨(hb.cell (p := ⟨gs, 0, none⟩) hgs).trans cs0, (hb.cell (p := ⟨gs, 1, none⟩) hgs).trans cs1, (hb.cell (p := ⟨gr, 0, none⟩) hgr).trans cr⟩
 have HU0 := hide (hu.later hbV)
 have H23 : Hid (∀ W, Below V.heap.size V W → Calls Tryz.prog 45 #[.agg #[.string nm, .string sy, I d0, I d1, I d2, I d3, I d4, I d5, I d6, I d7, .string fn, .string fd, .string on, .string od, I tk]] W fun r w' => r = .returned (.bool true) ∧ Below W.heap.size W w') := fun W hW => h23 W (hbV.trans (hW.mono hbV.size))
 have HLN := hide hlen
 have HV := hide hV
 have HN1 := hide hn1; have HN2 := hide hn2
 have HZ : Hid (base ≤ V.heap.size) := (un HR0).bs
 clear h hbV hb0 hV hlen cs0 cs1 hgs hu cr hgr h23 hn1 hn2
 go_enter Tryz.func43, Tryz.ntmps43
 go_upto_region 1 with fail
 rw [← un HV, ← hg3]
 rw [← hg3] at HA
 clear HV hg3
 have a0 : V.cell? ⟨g3, 0, none⟩ = some (.slice (some ⟨gs, 0, none⟩) 2 2) := (un HA).ub.c 0 _ rfl
 have a1 : V.cell? ⟨g3, 1, none⟩ = some (.func (.func 44) #[] #[.pointer (some ⟨gu, 0, none⟩)]) := (un HA).ub.c 1 _ rfl
 go_upto_region 6 with (first
  | (go_at_call 80; go_must (refine (closed_any _ _ (un HR0).c3).mono ?_; rintro e W1 ⟨rfl, hw⟩; obtain rfl : V = W1 := hw.symm; clear hw))
  | (go_at_call 44; go_must (refine (add1_any nm sy fn fd on od d0 d1 d2 d3 d4 d5 d6 d7 tk gu _ (un HU0) (un H23)).mono ?_; rintro e W1 ⟨rfl, hb⟩; have HBW := hide hb; clear hb a0 a1)))
 have HR1 := hide ((un HR0).later (un HBW))
 have HA1 := hide ((un HA).later (un HBW))
 have HU1 := hide ((un HU0).later (un HBW))
 have HB1 : Hid (Below base w0 W1) := (un HB0).trans ((un HBW).mono (un HZ))
 have HC1 : Hid (∀ W, Below W1.heap.size W1 W → W.cell? ⟨gs, 0, none⟩ = some (.string nm) ∧ W.cell? ⟨gs, 1, none⟩ = some (.string sy) ∧ W.cell? ⟨gr, 0, none⟩ = some (.pointer (some ⟨r, 0, none⟩))) := fun W hW => un HC0 W ((un HBW).trans (hW.mono (un HBW).size))
 clear HR0 HA HU0 HB0 HC0 H23 HBW HZ
 have a0 : W1.cell? ⟨g3, 0, none⟩ = some (.slice (some ⟨gs, 0, none⟩) 2 2) := (un HA1).ub.c 0 _ rfl
 go_upto_region 7 with fail
 clear a0
 go_loopw [23] (fun s23 wr => (s23 = I 0 ∨ s23 = I 1 ∨ s23 = I 2) ∧ Hid (Below W1.heap.size W1 wr)) (fun s23 _ => 2 - (intOf s23).toNat)
 case atStart => exact ⟨Or.inl rfl, Below.refl _ _⟩
 case round =>
  obtain ⟨hs, HB⟩ := hrel
  have hr2 := ((un HR1).later (un HB)).c2
  rcases hs with rfl | rfl | rfl
  ·have cg := (un HC1 _ (un HB)).1
   have hlk := look_absent ((un HR1).later (un HB)).mp nm hs1 (un HN1)
   go_wp2_with fail
   go_roundw
   case rel => exact ⟨Or.inr (Or.inl rfl), (un HB).alloc (un HB).size _⟩
   case measure => simp [intOf]
  ·have cg := (un HC1 _ (un HB)).2.1
   have hlk := look_absent ((un HR1).later (un HB)).mp sy hs2 (un HN2)
   go_wp2_with fail
   go_roundw
   case rel => exact ⟨Or.inr (Or.inr rfl), (un HB).alloc (un HB).size _⟩
   case measure => simp [intOf]
  ·have HR2 := hide ((un HR1).later (un HB))
   have HA2 := hide ((un HA1).later (un HB))
   have HU2 := hide ((un HU1).later (un HB))
   have HB2 : Hid (Below base w0 wr) := (un HB1).trans ((un HB).mono (un HR1).bs)
   have cgr := (un HC1 _ (un HB)).2.2
   have a2 : wr.cell? ⟨g3, 2, none⟩ = some (.func (.func 46) #[] #[.pointer (some ⟨gr, 0, none⟩)]) := (un HA2).ub.c 2 _ rfl
   have a3 : wr.cell? ⟨g3, 3, none⟩ = some (.func (.func 48) #[] #[.pointer (some ⟨gr, 0, none⟩), .pointer (some ⟨gu, 0, none⟩)]) := (un HA2).ub.c 3 _ rfl
   have H27 : Hid (Calls Tryz.prog 49 #[.pointer (some ⟨r, 0, none⟩), .agg #[.string nm, .string sy, I d0, I d1, I d2, I d3, I d4, I d5, I d6, I d7, .string fn, .string fd, .string on, .string od, I tk]] wr fun e w' => (∃ p : Nat, e = .returned (.pointer (some ⟨p, 0, none⟩))) ∧ ((∃ p v', RG w' K base r m v' (ps ++ [p]) (us ++ [#[.string nm, .string sy, I d0, I d1, I d2, I d3, I d4, I d5, I d6, I d7, .string fn, .string fd, .string on, .string od, I tk]]) (n + 2) ((D.put (.string nm.data.toList) (.lit (.bool true))).put (.string sy.data.toList) (.lit (.bool true)))) ∧ Below base w0 w')) :=
    (putUnit_any nm sy fn fd on od d0 d1 d2 d3 d4 d5 d6 d7 tk base r m n _ ps us D w0 wr (un HR2) (un HLN) (un HB2) hmb hrb hn (by omega) hs1 hs2).mono (fun e w' hh => by
     obtain ⟨⟨p, v', e1, h2⟩, h3⟩ := hh
     exact ⟨⟨p, e1⟩, ⟨p, v', h2⟩, h3⟩)
   clear hr2
   go_wp2_with (first
    | (go_at_call 46; go_must (refine (add2_any gr r ps.length av cv _ (by omega) cgr (un HR2).c0).mono ?_; rintro e W2 ⟨rfl, hw⟩; obtain rfl : wr = W2 := hw.symm; clear hw))
    | (go_at_call 48; go_must (refine (add3_any nm sy fn fd on od d0 d1 d2 d3 d4 d5 d6 d7 tk gr gu r _ _ cgr (un HU2) (un H27)).mono ?_; rintro e W2 ⟨rfl, hq⟩; have HQ := hide hq; clear hq cgr a2 a3)))
   go_ret
   exact ⟨rfl, (un HQ).1, (un HQ).2⟩
end Go.Proofs.YthcbhnggphdflaaGreatDoor

namespace Go.Proofs.YthcbhnggphdflaaGreatDoor
open Go.RowKit Go.Maps Go.ChangeMaps Go.WideMaps
variable {K : Nat → Nat → Array Value → Prop}
set_option maxRecDepth 100000 in
set_option maxHeartbeats 2000000 in
theorem new_any (w : World) : Calls Tryz.prog 19 #[] w fun e w' => e = .returned (.pointer (some ⟨w.heap.size + 1, 0, none⟩)) ∧ RG w' (fun _ _ _ => False) w.heap.size (w.heap.size + 1) w.heap.size (.slice none 0 0) [] [] 0 (.map []) ∧ Below w.heap.size w w' := by
 have hmm := @run_makeMap Tryz.prog
 go_enter Tryz.func19, Tryz.ntmps19
 go_wp2_with fail
 go_ret
 have hm := World.ownsMap_made (H := Unit) w Tryz.prog 9 Rm
 refine ⟨by simp, ⟨?_, ?_, hm.alloc _, ?_, ?_, fun _ _ _ h => h.elim⟩, ?_⟩
 ·have h := OwnU.new (w.alloc (.map #[] 0)) #[.slice none 0 0, .slice none 0 0, .map (some w.heap.size), .bool false] 84
  rw [Dm.size_alloc] at h
  exact h
 ·exact World.ownsRow_nil _ _ _ _
 ·intro i p u h1 _
  simp at h1
 ·simp
  omega
 ·exact ((Below.refl _ _).alloc (Nat.le_refl _) _).alloc (by simp) _
set_option maxRecDepth 100000 in
set_option maxHeartbeats 4000000 in
theorem add_any (nm sy fn fd on od : ByteArray) (d0 d1 d2 d3 d4 d5 d6 d7 tk : Int) (base r m n : Nat) (vs : Value) (ps : List Nat) (us : List (Array Value)) (D : DataW Unit) (w0 w : World) (h : RG w K base r m vs ps us n D) (hlen : us.length = ps.length) (hb0 : Below base w0 w) (hmb : base ≤ m) (hrb : base ≤ r) (hn : n + 2 < 1000000) (hps : ps.length < 500)
  (hs1 : nm.size ≤ maxLen) (hs2 : sy.size ≤ maxLen)
  (h23 : ∀ W, Below w.heap.size w W → Calls Tryz.prog 45 #[.agg #[.string nm, .string sy, I d0, I d1, I d2, I d3, I d4, I d5, I d6, I d7, .string fn, .string fd, .string on, .string od, I tk]] W fun r w' => r = .returned (.bool true) ∧ Below W.heap.size W w')
  (hn1 : Maps.has D (.string nm.data.toList) = false) (hn2 : Maps.has D (.string sy.data.toList) = false) :
  Calls Tryz.prog 22 #[.pointer (some ⟨r, 0, none⟩), .agg #[.string nm, .string sy, I d0, I d1, I d2, I d3, I d4, I d5, I d6, I d7, .string fn, .string fd, .string on, .string od, I tk]] w fun e w' => e = .returned (I 0) ∧ (∃ p v', RG w' K base r m v' (ps ++ [p]) (us ++ [#[.string nm, .string sy, I d0, I d1, I d2, I d3, I d4, I d5, I d6, I d7, .string fn, .string fd, .string on, .string od, I tk]]) (n + 2) ((D.put (.string nm.data.toList) (.lit (.bool true))).put (.string sy.data.toList) (.lit (.bool true)))) ∧ Below base w0 w' := by
 obtain ⟨V, hV⟩ : ∃ V, V = (w.alloc (.cells #[.pointer (some ⟨r, 0, none⟩)] 46)).alloc (.cells #[.string nm, .string sy, I d0, I d1, I d2, I d3, I d4, I d5, I d6, I d7, .string fn, .string fd, .string on, .string od, I tk] 30) := ⟨_, rfl⟩
 have hbV : Below w.heap.size w V := by rw [hV]; exact ((Below.refl _ _).alloc (Nat.le_refl _) _).alloc (by simp) _
 have HP0 : Hid (OwnU V w.heap.size 46 #[.pointer (some ⟨r, 0, none⟩)]) := by rw [hV]; exact (OwnU.new _ _ _).alloc _
 have HU0 : Hid (OwnU V (w.heap.size + 1) 30 #[.string nm, .string sy, I d0, I d1, I d2, I d3, I d4, I d5, I d6, I d7, .string fn, .string fd, .string on, .string od, I tk]) := by rw [hV]; have h := OwnU.new (w.alloc (.cells #[.pointer (some ⟨r, 0, none⟩)] 46)) #[.string nm, .string sy, I d0, I d1, I d2, I d3, I d4, I d5, I d6, I d7, .string fn, .string fd, .string on, .string od, I tk] 30; rw [Dm.size_alloc] at h; exact h
 have HR0 := hide (h.later hbV)
 have HB0 : Hid (Below base w0 V) := hb0.trans (hbV.mono h.bs)
 have H23 : Hid (∀ W, Below V.heap.size V W → Calls Tryz.prog 45 #[.agg #[.string nm, .string sy, I d0, I d1, I d2, I d3, I d4, I d5, I d6, I d7, .string fn, .string fd, .string on, .string od, I tk]] W fun r w' => r = .returned (.bool true) ∧ Below W.heap.size W w') := fun W hW => h23 W (hbV.trans (hW.mono hbV.size))
 have HLN := hide hlen
 have HV := hide hV
 have HN1 := hide hn1; have HN2 := hide hn2
 obtain ⟨g2, hg2⟩ : ∃ g2, g2 = w.heap.size := ⟨_, rfl⟩
 obtain ⟨g3, hg3⟩ : ∃ g3, g3 = w.heap.size + 1 := ⟨_, rfl⟩
 clear h hbV hb0 hV hlen h23 hn1 hn2
 go_enter Tryz.func22, Tryz.ntmps22
 go_upto_region 1 with fail
 rw [← un HV, ← hg3, ← hg2]
 rw [← hg2] at HP0
 rw [← hg3] at HU0
 clear HV hg2 hg3
 have p0 : V.cell? ⟨g2, 0, none⟩ = some (.pointer (some ⟨r, 0, none⟩)) := (un HP0).ub.c 0 _ rfl
 have u0 : V.cell? ⟨g3, 0, none⟩ = some (.string nm) := (un HU0).ub.c 0 _ rfl
 have u1 : V.cell? ⟨g3, 1, none⟩ = some (.string sy) := (un HU0).ub.c 1 _ rfl
 have hbA : Below V.heap.size V (V.alloc (.cells #[.string nm, .string sy] 9)) := (Below.refl _ _).alloc (Nat.le_refl _) _
 have HS : Hid (OwnU (V.alloc (.cells #[.string nm, .string sy] 9)) V.heap.size 9 #[.string nm, .string sy]) := OwnU.new _ _ _
 have HTK : Hid (Calls Tryz.prog 43 #[.pointer (some ⟨r, 0, none⟩), .agg #[.slice (some ⟨V.heap.size, 0, none⟩) 2 2, .func (.func 44) #[] #[.pointer (some ⟨g3, 0, none⟩)], .func (.func 46) #[] #[.pointer (some ⟨g2, 0, none⟩)], .func (.func 48) #[] #[.pointer (some ⟨g2, 0, none⟩), .pointer (some ⟨g3, 0, none⟩)]]] (V.alloc (.cells #[.string nm, .string sy] 9)) fun e w' => e = .returned (I 0) ∧ (∃ p v', RG w' K base r m v' (ps ++ [p]) (us ++ [#[.string nm, .string sy, I d0, I d1, I d2, I d3, I d4, I d5, I d6, I d7, .string fn, .string fd, .string on, .string od, I tk]]) (n + 2) ((D.put (.string nm.data.toList) (.lit (.bool true))).put (.string sy.data.toList) (.lit (.bool true)))) ∧ Below base w0 w') :=
  take_any nm sy fn fd on od d0 d1 d2 d3 d4 d5 d6 d7 tk base r m n V.heap.size g3 g2 vs ps us D w0 _ ((un HR0).later hbA) (un HLN) ((un HB0).trans (hbA.mono (un HR0).bs)) hmb hrb hn hps hs1 hs2
   ((un HS).ub.c 0 _ rfl) ((un HS).ub.c 1 _ rfl) (un HS).lt ((un HU0).later hbA) (((un HP0).later hbA).ub.c 0 _ rfl) ((un HP0).later hbA).lt (fun W hW => un H23 W (hbA.trans (hW.mono hbA.size))) (un HN1) (un HN2)
 clear hbA
 go_wp2_with (go_at_call 43; go_must (refine (un HTK).mono ?_; rintro e W1 ⟨rfl, hq⟩; have HQ := hide hq; clear hq p0 u0 u1))
 go_ret
 exact ⟨rfl, un HQ⟩
end Go.Proofs.YthcbhnggphdflaaGreatDoor

namespace Go.Proofs.YthcbhnggphdflaaGreatDoor
open Go.RowKit Go.Maps Go.ChangeMaps Go.WideMaps
variable {K : Nat → Nat → Array Value → Prop}
theorem info30 : (Tryz.prog.info? 30).map (fun i => (i.zero, i.size, i.bytes)) = some (some (.agg #[.string ⟨#[]⟩, .string ⟨#[]⟩, I 0, I 0, I 0, I 0, I 0, I 0, I 0, I 0, .string ⟨#[]⟩, .string ⟨#[]⟩, .string ⟨#[]⟩, .string ⟨#[]⟩, I 0]), 15, 168) := by kernel_rfl
theorem under22u : Tryz.prog.underlying 22 = some (.slice 30) := by kernel_rfl
def IsU (u : Array Value) : Prop := ∃ (nm sy fn fd on od : ByteArray) (d0 d1 d2 d3 d4 d5 d6 d7 tk : Int), u = #[.string nm, .string sy, I d0, I d1, I d2, I d3, I d4, I d5, I d6, I d7, .string fn, .string fd, .string on, .string od, I tk]
def flatU (us : List (Array Value)) (k : Nat) : List Value := (us.take k).flatMap Array.toList
theorem flatU_succ (us : List (Array Value)) (k : Nat) (u : Array Value) (h : us[k]? = some u) : flatU us (k + 1) = flatU us k ++ u.toList := by
 unfold flatU
 rw [List.take_add_one, List.flatMap_append, h]
 simp
theorem news15 (W : World) (x0 x1 x2 x3 x4 x5 x6 x7 x8 x9 x10 x11 x12 x13 x14 : Value) (ty : Nat) : ∀ j u, [x0, x1, x2, x3, x4, x5, x6, x7, x8, x9, x10, x11, x12, x13, x14][j]? = some u → (W.alloc (.cells #[x0, x1, x2, x3, x4, x5, x6, x7, x8, x9, x10, x11, x12, x13, x14] ty)).cell? ((⟨W.heap.size, 0, none⟩ : Addr).add j) = some u := by
 intro j u hu
 have h := (OwnU.new W #[x0, x1, x2, x3, x4, x5, x6, x7, x8, x9, x10, x11, x12, x13, x14] ty).ub.c j u (by simpa using hu)
 have e : (⟨W.heap.size, 0, none⟩ : Addr).add j = ⟨W.heap.size, j, none⟩ := by by_cases hj : j = 0 <;> simp [Addr.add, hj]
 rw [e]
 exact h
theorem one15 (nm sy fn fd on od : ByteArray) (d0 d1 d2 d3 d4 d5 d6 d7 tk : Int) : ∀ u ∈ ([.string nm, .string sy, I d0, I d1, I d2, I d3, I d4, I d5, I d6, I d7, .string fn, .string fd, .string on, .string od, I tk] : List Value), u.oneCell' = true := by
 intro u hu
 simp only [List.mem_cons, List.not_mem_nil, or_false] at hu
 rcases hu with rfl | rfl | rfl | rfl | rfl | rfl | rfl | rfl | rfl | rfl | rfl | rfl | rfl | rfl | rfl <;> rfl
set_option maxRecDepth 100000 in
set_option maxHeartbeats 4000000 in
theorem units_any (base r m n : Nat) (vs : Value) (ps : List Nat) (us : List (Array Value)) (D : DataW Unit) (w : World) (h : RG w K base r m vs ps us n D) (hlen : us.length = ps.length) (h0 : 0 < ps.length) (hps : ps.length < 500) (hU : ∀ (k : Nat) u, us[k]? = some u → IsU u) :
  Calls Tryz.prog 24 #[.pointer (some ⟨r, 0, none⟩)] w fun e w' => ∃ v, e = .returned v ∧ w'.ownsRow w.heap.size 30 15 v ps.length (flatU us ps.length) ∧ Below w.heap.size w w' := by
 obtain ⟨i0, hi, hz0, hz1, hz2⟩ := info_parts info30
 obtain ⟨g, cap, rfl⟩ := Joins.ownsRow_form h.row h0
 have c0 := h.c0
 have HC : Hid (∀ W, Below w.heap.size w W → ∀ k p, ps[k]? = some p → W.cell? ⟨g, k, none⟩ = some (.pointer (some ⟨p, 0, none⟩))) := fun W hW k p hk => by
  have hg := (h.row.lt g rfl).2
  rw [hW.cell (p := ⟨g, k, none⟩) hg, h.row.cellAt k (by have := (List.getElem?_eq_some_iff.1 hk).1; omega)]
  simp [hk]
 have HR := hide h
 have HL := hide hlen
 obtain ⟨N, hN⟩ : ∃ N, N = ps.length := ⟨_, rfl⟩
 rw [← hN] at h0 hps ⊢ c0
 have HN := hide hN
 have HUU := hide hU
 clear h hlen hN hU
 go_enter Tryz.func24, Tryz.ntmps24
 go_upto_region 5 with fail
 go_loopw [3, 13] (fun s3 s13 wr => ∃ (k : Nat) (v : Value), k ≤ N ∧ v = s3 ∧ s13 = I (k : Int) ∧ Hid (wr.ownsRow w.heap.size 30 15 v k (flatU us k)) ∧ Hid (Below w.heap.size w wr)) (fun _ s13 _ => N - (intOf s13).toNat)
 case atStart => exact ⟨0, _, by omega, rfl, rfl, World.ownsRow_nil _ _ _ _, Below.refl _ _⟩
 case round =>
  obtain ⟨k, v, hk, rfl, rfl, HO, HB⟩ := hrel
  clear c0
  by_cases hlt : k < N
  ·have hkI : (k : Int) < N := by omega
   have hk0 : (0 : Int) ≤ (k : Int) := by omega
   obtain ⟨p, hp⟩ : ∃ p, ps[k]? = some p := ⟨_, List.getElem?_eq_getElem (by rw [← un HN]; exact hlt)⟩
   obtain ⟨u, hu⟩ : ∃ u, us[k]? = some u := ⟨_, List.getElem?_eq_getElem (by rw [un HL, ← un HN]; exact hlt)⟩
   have HF := hide (flatU_succ us k u hu)
   obtain ⟨nm, sy, fn, fd, on, od, d0, d1, d2, d3, d4, d5, d6, d7, tk, rfl⟩ := un HUU k u hu
   have cg := un HC wr (un HB) k p hp
   have u0 : wr.cell? ⟨p, 0, none⟩ = some (.string nm) := ((un HR).un k p _ hp hu |>.later (un HB)).ub.c 0 _ rfl; have u1 : wr.cell? ⟨p, 1, none⟩ = some (.string sy) := ((un HR).un k p _ hp hu |>.later (un HB)).ub.c 1 _ rfl; have u2 : wr.cell? ⟨p, 2, none⟩ = some (I d0) := ((un HR).un k p _ hp hu |>.later (un HB)).ub.c 2 _ rfl; have u3 : wr.cell? ⟨p, 3, none⟩ = some (I d1) := ((un HR).un k p _ hp hu |>.later (un HB)).ub.c 3 _ rfl; have u4 : wr.cell? ⟨p, 4, none⟩ = some (I d2) := ((un HR).un k p _ hp hu |>.later (un HB)).ub.c 4 _ rfl; have u5 : wr.cell? ⟨p, 5, none⟩ = some (I d3) := ((un HR).un k p _ hp hu |>.later (un HB)).ub.c 5 _ rfl; have u6 : wr.cell? ⟨p, 6, none⟩ = some (I d4) := ((un HR).un k p _ hp hu |>.later (un HB)).ub.c 6 _ rfl; have u7 : wr.cell? ⟨p, 7, none⟩ = some (I d5) := ((un HR).un k p _ hp hu |>.later (un HB)).ub.c 7 _ rfl; have u8 : wr.cell? ⟨p, 8, none⟩ = some (I d6) := ((un HR).un k p _ hp hu |>.later (un HB)).ub.c 8 _ rfl; have u9 : wr.cell? ⟨p, 9, none⟩ = some (I d7) := ((un HR).un k p _ hp hu |>.later (un HB)).ub.c 9 _ rfl; have u10 : wr.cell? ⟨p, 10, none⟩ = some (.string fn) := ((un HR).un k p _ hp hu |>.later (un HB)).ub.c 10 _ rfl; have u11 : wr.cell? ⟨p, 11, none⟩ = some (.string fd) := ((un HR).un k p _ hp hu |>.later (un HB)).ub.c 11 _ rfl; have u12 : wr.cell? ⟨p, 12, none⟩ = some (.string on) := ((un HR).un k p _ hp hu |>.later (un HB)).ub.c 12 _ rfl; have u13 : wr.cell? ⟨p, 13, none⟩ = some (.string od) := ((un HR).un k p _ hp hu |>.later (un HB)).ub.c 13 _ rfl; have u14 : wr.cell? ⟨p, 14, none⟩ = some (I tk) := ((un HR).un k p _ hp hu |>.later (un HB)).ub.c 14 _ rfl
   clear hp hu
   go_upto_region 7 with fail
   go_wp2_with (at_builtin; go_must (refine wpList_append_own _ rfl _ _ 22 rfl w.heap.size 30 i0 (.agg #[.string ⟨#[]⟩, .string ⟨#[]⟩, I 0, I 0, I 0, I 0, I 0, I 0, I 0, I 0, .string ⟨#[]⟩, .string ⟨#[]⟩, .string ⟨#[]⟩, .string ⟨#[]⟩, I 0]) 15 168 under22u hi hz0 hz1 hz2 rfl (by decide) _ k (flatU us k) rfl ((un HO).alloc _) ⟨wr.heap.size, 0, none⟩ 1 1 [.string nm, .string sy, I d0, I d1, I d2, I d3, I d4, I d5, I d6, I d7, .string fn, .string fd, .string on, .string od, I tk] rfl rfl (news15 _ _ _ _ _ _ _ _ _ _ _ _ _ _ _ _ _) (one15 _ _ _ _ _ _ _ _ _ _ _ _ _ _ _) (by unfold maxLen; omega) (by omega) (by have h1 := (un HB).size; simp; omega) ?_; intro v2 wa hown hgrow hnil; have HOW := hide hown; have HB4 : Hid (Below w.heap.size w wa) := ((un HB).alloc (un HB).size _).grown hgrow (by have h1 := (un HB).size; simp; omega) (fun j hj => ((un HO).lt j hj).1); clear hown hgrow hnil cg u0 u1 u2 u3 u4 u5 u6 u7 u8 u9 u10 u11 u12 u13 u14))
   go_roundw
   case rel =>
    refine ⟨k + 1, v2, by omega, rfl, by go_num, ?_, HB4⟩
    have h := un HOW
    rw [show flatU us k ++ [.string nm, .string sy, I d0, I d1, I d2, I d3, I d4, I d5, I d6, I d7, .string fn, .string fd, .string on, .string od, I tk] = flatU us (k + 1) from (un HF).symm] at h
    exact h
   case measure => simp [intOf]; omega
  ·have hkI : ¬ (k : Int) < N := by omega
   have HK : Hid (k = N) := by show k = N; omega
   go_wp2_with fail
   go_ret
   refine ⟨v, rfl, ?_, un HB⟩
   have h := un HO
   rw [un HK] at h
   exact h
end Go.Proofs.YthcbhnggphdflaaGreatDoor

namespace Go.Proofs.YthcbhnggphdflaaGreatDoor
open Go.RowKit
set_option maxRecDepth 100000 in
set_option maxHeartbeats 2000000 in
theorem qmul (x y : Value) (p q : Rat) (k : Nat) (w : World) (hx : QOf w x p k) (hy : QOf w y q k) (hk : k + k ≤ 100000) :
  Calls Tryz.prog 69 #[x, y] w fun r w' => ∃ v, r = .returned v ∧ QOf w' v (p * q) (k + k) ∧ Below w.heap.size w w' := by
 obtain ⟨b, a1, l1, c1, a2, l2, c2, rfl⟩ := hx.form
 obtain ⟨c, a3, l3, c3, a4, l4, c4, rfl⟩ := hy.form
 obtain ⟨V, hV⟩ : ∃ V, V = (((w.alloc (.cells #[.bool b, .slice a1 l1 c1, .slice a2 l2 c2] 118)).alloc (.cells #[.bool c, .slice a3 l3 c3, .slice a4 l4 c4] 118)).alloc (.cells #[.bool false, .slice none 0 0, .slice none 0 0] 118)) := ⟨_, rfl⟩
 have HS : Hid (AS w V (.bool b) (.slice a1 l1 c1) (.slice a2 l2 c2) (.bool c) (.slice a3 l3 c3) (.slice a4 l4 c4) []) := by rw [hV]; exact AS.first _ _ _ _ _ _ _
 have HX := hide (hx.later (un HS).below)
 have HY := hide (hy.later (un HS).below)
 have HV := hide hV
 have HK := hide hk
 have HT : Hid (Calls Tryz.prog 95 #[.slice (some ⟨V.heap.size, 0, none⟩) 2 2] (V.alloc (.cells #[.bool b, .slice a1 l1 c1, .slice a2 l2 c2, .bool c, .slice a3 l3 c3, .slice a4 l4 c4] 118)) fun r w' => ∃ v, r = .returned v ∧ QOf w' v (p * q) (k + k) ∧ Below V.heap.size V w') := by
  have hb : Below V.heap.size V (V.alloc (.cells #[.bool b, .slice a1 l1 c1, .slice a2 l2 c2, .bool c, .slice a3 l3 c3, .slice a4 l4 c4] 118)) := (Below.refl _ _).alloc (Nat.le_refl _) _
  refine (qtimes V.heap.size b c a1 a2 a3 a4 l1 c1 l2 c2 l3 c3 l4 c4 p q k _ (by simp [go_sem]) (by simp [go_sem]) (by simp [go_sem]) (by simp [go_sem]) (by simp [go_sem]) (by simp [go_sem]) ((un HX).later hb) ((un HY).later hb) hk).mono ?_
  rintro r w' ⟨v, rfl, hv, hb'⟩
  exact ⟨v, rfl, hv, hb.trans (hb'.mono hb.size)⟩
 clear hx hy hk hV
 go_enter Tryz.func69, Tryz.ntmps69
 go_upto_region 1 with fail
 rw [← un HV]
 clear HV
 have t0 := (un HS).x.c0; have t1 := (un HS).x.c1; have t2 := (un HS).x.c2; have t3 := (un HS).y.c0; have t4 := (un HS).y.c1; have t5 := (un HS).y.c2
 go_wp2_with (go_at_call 95; go_must (refine (un HT).mono ?_; rintro e w1 ⟨v1, rfl, hv1, hb1⟩; obtain ⟨b1, i1, i2, i3, i4, i5, i6, rfl⟩ := hv1.form; have HS1 := hide ((un HS).later hb1); have HV1 := hide hv1; clear hv1 hb1 t0 t1 t2 t3 t4 t5; have r0 := (un HS1).r.c0; have r1 := (un HS1).r.c1; have r2 := (un HS1).r.c2; have rf0 := (un HS1).r.f0; have rf1 := (un HS1).r.f1; have rf2 := (un HS1).r.f2))
 have hS := (un HS1).r.store (.bool b1) (.slice i1 i2 i3) (.slice i4 i5 i6)
 have hb : Below w.heap.size w (store3 w1 (w.heap.size + 1 + 1) (.bool b1) (.slice i1 i2 i3) (.slice i4 i5 i6)) := below_store3 (un HS1).below (by omega) _ _ _
 have u0 := hS.c0; have u1 := hS.c1; have u2 := hS.c2
 exact bodyPost_ret (v := .agg #[.bool b1, .slice i1 i2 i3, .slice i4 i5 i6]) (w := store3 w1 (w.heap.size + 1 + 1) (.bool b1) (.slice i1 i2 i3) (.slice i4 i5 i6)) (by simp [results, Tryz.results69, go_sem, u0, u1, u2]) rfl ⟨_, rfl, (un HV1).stored (un HS1).r, hb⟩
set_option maxRecDepth 100000 in
set_option maxHeartbeats 2000000 in
theorem ofTwo95_ok (n1 d1 n2 d2 : ByteArray) (x y : Rat) (w : World) (h1 : IsR n1 d1 x) (h2 : IsR n2 d2 y) (htab : Tab w) : Ans 68 #[.agg #[.string n1, .string d1], .agg #[.string n2, .string d2], .func (Fn.func 69) #[] #[]] w (numT (x * y)) (denT (x * y)) (errT (x * y)) := by
 unfold Ans
 obtain ⟨V, hV⟩ : ∃ V, V = ((w.alloc (.cells #[.string n1, .string d1] 28)).alloc (.cells #[.string n2, .string d2] 28)).alloc (.cells #[.string ⟨#[]⟩, .string ⟨#[]⟩] 28) := ⟨_, rfl⟩
 have HS : Hid (O3 w V (.string n1) (.string d1) (.string n2) (.string d2)) := by rw [hV]; exact O3.first _ _ _ _ _
 have HV := hide hV
 have HR := hide (readTwo_ok n1 d1 n2 d2 x y V h1 h2)
 have HT := hide (htab.later (un HS).below)
 clear h1 h2 htab
 go_enter Tryz.func68, Tryz.ntmps68
 go_upto_region 1 with fail
 rw [← un HV]
 clear hV HV
 have t0 := (un HS).a.c0; have t1 := (un HS).a.c1; have t2 := (un HS).b.c0; have t3 := (un HS).b.c1
 go_upto_region 2 with (go_at_call 64; go_must (refine (un HR).mono ?_; rintro e w1 ⟨v1, v2, rfl, hv1, hv2, hb1⟩; obtain ⟨b1, i1, i2, i3, i4, i5, i6, rfl⟩ := hv1.form; obtain ⟨b2, j1, j2, j3, j4, j5, j6, rfl⟩ := hv2.form; have HS1 := hide ((un HS).later hb1); have HV1 := hide hv1; have HV2 := hide hv2; have HT1 := hide ((un HT).later hb1); clear hv1 hv2 hb1 t0 t1 t2 t3))
 obtain ⟨V2, hV2⟩ : ∃ V2, V2 = (w1.alloc (.cells #[.bool b1, .slice i1 i2 i3, .slice i4 i5 i6] 118)).alloc (.cells #[.bool b2, .slice j1 j2 j3, .slice j4 j5 j6] 118) := ⟨_, rfl⟩
 have hb : Below w1.heap.size w1 V2 := by rw [hV2]; exact ((Below.refl _ _).alloc (Nat.le_refl _) _).alloc (by simp) _
 have HS2 := hide ((un HS1).later hb); have HX := hide ((un HV1).later hb); have HY := hide ((un HV2).later hb); have HT2 := hide ((un HT1).later hb)
 have HP : Hid (FBox V2 w1.heap.size (.bool b1) (.slice i1 i2 i3) (.slice i4 i5 i6)) := by rw [hV2]; exact (FBox.new _ _ _ _).later ((Below.refl _ _).alloc (Nat.le_refl _) _)
 have HQ : Hid (FBox V2 (w1.heap.size + 1) (.bool b2) (.slice j1 j2 j3) (.slice j4 j5 j6)) := by
  rw [hV2]
  have := FBox.new (w1.alloc (.cells #[.bool b1, .slice i1 i2 i3, .slice i4 i5 i6] 118)) (.bool b2) (.slice j1 j2 j3) (.slice j4 j5 j6)
  rwa [show (w1.alloc (.cells #[.bool b1, .slice i1 i2 i3, .slice i4 i5 i6] 118)).heap.size = w1.heap.size + 1 by simp] at this
 rw [← hV2]
 clear hV2 hb HS HS1 HV1 HV2 HT HT1 HR
 generalize w1.heap.size = g8 at *
 have t0 := (un HP).c0; have t1 := (un HP).c1; have t2 := (un HP).c2; have t3 := (un HQ).c0; have t4 := (un HQ).c1; have t5 := (un HQ).c2
 go_wp2_with (first
  | (go_at_call 69; go_must (refine (qmul _ _ x y 67 _ (un HX) (un HY) (by decide)).mono ?_; rintro e w3 ⟨v3, rfl, hv3, hb3⟩; have HV3 := hide hv3; have HS3 := hide ((un HS2).later hb3); have HT3 := hide ((un HT2).later hb3); clear hv3 hb3 t0 t1 t2 t3 t4 t5))
  | (go_at_call 67; go_must (refine (qtell _ _ (67 + 67) _ (un HV3) (by decide) (un HT3)).mono ?_; rintro e w4 ⟨rfl, hb4⟩; have HS4 := hide ((un HS3).later hb4); clear hb4; have r0 := (un HS4).r.c0; have r1 := (un HS4).r.c1; have rf0 := (un HS4).r.f0; have rf1 := (un HS4).r.f1)))
 have hS := (un HS4).r.store (.string (numT (x * y))) (.string (denT (x * y)))
 have hb : Below w.heap.size w (store2 w4 (w.heap.size + 1 + 1) (.string (numT (x * y))) (.string (denT (x * y)))) := below_store2 (un HS4).below (by omega) _ _
 have u0 := hS.c0; have u1 := hS.c1
 exact bodyPost_ret (v := .tuple #[.agg #[.string (numT (x * y)), .string (denT (x * y))], I (errT (x * y))]) (w := store2 w4 (w.heap.size + 1 + 1) (.string (numT (x * y))) (.string (denT (x * y)))) (by simp [results, Tryz.results68, go_sem, u0, u1]) rfl ⟨rfl, hb⟩
set_option maxRecDepth 100000 in
set_option maxHeartbeats 2000000 in
theorem rmul_of (n1 d1 n2 d2 s t : ByteArray) (e : Int) (w : World) (h : ∀ W, Below w.heap.size w W → Ans 68 #[.agg #[.string n1, .string d1], .agg #[.string n2, .string d2], .func (Fn.func 69) #[] #[]] W s t e) : Ans 39 #[.agg #[.string n1, .string d1], .agg #[.string n2, .string d2]] w s t e := by
 unfold Ans at *
 obtain ⟨V, hV⟩ : ∃ V, V = ((w.alloc (.cells #[.string n1, .string d1] 28)).alloc (.cells #[.string n2, .string d2] 28)).alloc (.cells #[.string ⟨#[]⟩, .string ⟨#[]⟩] 28) := ⟨_, rfl⟩
 have HS : Hid (O3 w V (.string n1) (.string d1) (.string n2) (.string d2)) := by rw [hV]; exact O3.first _ _ _ _ _
 have HV := hide hV
 have HR := hide (h V (un HS).below)
 clear h
 go_enter Tryz.func39, Tryz.ntmps39
 go_upto_region 1 with fail
 rw [← un HV]
 clear hV HV
 have t0 := (un HS).a.c0; have t1 := (un HS).a.c1; have t2 := (un HS).b.c0; have t3 := (un HS).b.c1
 go_wp2_with (go_at_call 68; go_must (refine (un HR).mono ?_; rintro e w4 ⟨rfl, hb4⟩; have HS4 := hide ((un HS).later hb4); clear hb4 t0 t1 t2 t3; have r0 := (un HS4).r.c0; have r1 := (un HS4).r.c1; have rf0 := (un HS4).r.f0; have rf1 := (un HS4).r.f1))
 have hS := (un HS4).r.store (.string s) (.string t)
 have hb : Below w.heap.size w (store2 w4 (w.heap.size + 1 + 1) (.string s) (.string t)) := below_store2 (un HS4).below (by omega) _ _
 have u0 := hS.c0; have u1 := hS.c1
 exact bodyPost_ret (v := .tuple #[.agg #[.string s, .string t], I e]) (w := store2 w4 (w.heap.size + 1 + 1) (.string s) (.string t)) (by simp [results, Tryz.results39, go_sem, u0, u1]) rfl ⟨rfl, hb⟩
theorem rmul_ok (n1 d1 n2 d2 : ByteArray) (x y : Rat) (w : World) (h1 : IsR n1 d1 x) (h2 : IsR n2 d2 y) (htab : Tab w) : Ans 39 #[.agg #[.string n1, .string d1], .agg #[.string n2, .string d2]] w (numT (x * y)) (denT (x * y)) (errT (x * y)) :=
 rmul_of n1 d1 n2 d2 _ _ _ w (fun W hb => ofTwo95_ok n1 d1 n2 d2 x y W h1 h2 (htab.later hb))
end Go.Proofs.YthcbhnggphdflaaGreatDoor

namespace Go.Proofs
open Go.Shelf
def Tryz.lays125_ren : Go.Shelf.Ren := ⟨fun | 125 => 200 | 128 => 215 | 129 => 202 | n => n, fun | 46 => 225 | 3 => 3 | 51 => 229 | 53 => 138 | 4 => 4 | 5 => 5 | 9 => 9 | n => n, fun | n => n⟩
theorem Tryz.lays125 : Go.Proofs.Lays.n125 Tryz.prog Tryz.lays125_ren := {
 mixed := by kernel_rfl
 f125 := Tryz.func200.trans (congrArg some (by kernel_rfl))
 f128 := Tryz.func215.trans (congrArg some (by kernel_rfl))
 f129 := Tryz.func202.trans (congrArg some (by kernel_rfl))
 t3 := Tryz.underlying3
 a3 := Tryz.isAgg3
 z3 := Tryz.sizeOf3
 v3 := Tryz.zeroValue3
 t4 := Tryz.underlying4
 a4 := Tryz.isAgg4
 z4 := Tryz.sizeOf4
 v4 := Tryz.zeroValue4
 t5 := Tryz.underlying5
 a5 := Tryz.isAgg5
 z5 := Tryz.sizeOf5
 v5 := Tryz.zeroValue5
 t9 := Tryz.underlying9
 a9 := Tryz.isAgg9
 z9 := Tryz.sizeOf9
 v9 := Tryz.zeroValue9
 t46 := Tryz.underlying225
 a46 := Tryz.isAgg225
 z46 := Tryz.sizeOf225
 v46 := Tryz.zeroValue225
 t51 := Tryz.underlying229
 a51 := Tryz.isAgg229
 z51 := Tryz.sizeOf229
 v51 := Tryz.zeroValue229
 t53 := Tryz.underlying138
 a53 := Tryz.isAgg138
 z53 := Tryz.sizeOf138
 v53 := Tryz.zeroValue138 }
theorem Tryz.bits_Len (x : Int) (w : World) (h0 : 0 ≤ x) (h1 : x ≤ 18446744073709551615) :
  Calls Tryz.prog 200 #[.int .u64 x] w fun e w' => e = .returned (.int .i64 (Lib.bitLen x.toNat)) ∧ w' = w := Any.bits_Len Tryz.lays125 x w h0 h1
end Go.Proofs

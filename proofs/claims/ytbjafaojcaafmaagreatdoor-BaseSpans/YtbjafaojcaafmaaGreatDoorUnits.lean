/- Units (12): what a registry holds, in its order. -/
import Derived.Test.YtbjafaojcaafmaaGreatDoorRegAdd
import Derived.Carry
import Derived.Laws.OwnMore
import Derived.Lib.SmallJoins
namespace Go.Proofs.YtbjafaojcaafmaaGreatDoor
open Go.RowKit Go.Maps Go.ChangeMaps Go.WideMaps
variable {K : Nat → Nat → Array Value → Prop}
theorem RG.c3 {W : World} {base r m n : Nat} {vs : Value} {ps : List Nat} {us : List (Array Value)} {D : DataW Unit} (h : RG W K base r m vs ps us n D) : W.cell? ⟨r, 3, none⟩ = some (.bool false) := h.k0.ub.c 3 _ rfl
theorem RG.c2 {W : World} {base r m n : Nat} {vs : Value} {ps : List Nat} {us : List (Array Value)} {D : DataW Unit} (h : RG W K base r m vs ps us n D) : W.cell? ⟨r, 2, none⟩ = some (.map (some m)) := h.k0.ub.c 2 _ rfl
theorem RG.c0 {W : World} {base r m n : Nat} {vs : Value} {ps : List Nat} {us : List (Array Value)} {D : DataW Unit} (h : RG W K base r m vs ps us n D) : W.cell? ⟨r, 0, none⟩ = some vs := h.k0.ub.c 0 _ rfl
set_option maxRecDepth 100000 in
set_option maxHeartbeats 4000000 in
theorem take_any (nm sy fn fd on od : ByteArray) (d0 d1 d2 d3 d4 d5 d6 d7 tk : Int) (base r m n gs gu gr : Nat) (vs : Value) (ps : List Nat) (us : List (Array Value)) (D : DataW Unit) (w0 w : World) (h : RG w K base r m vs ps us n D) (hlen : us.length = ps.length) (hb0 : Below base w0 w) (hmb : base ≤ m) (hrb : base ≤ r) (hn : n + 2 < 1000000) (hps : ps.length < 500)
    (hs1 : nm.size ≤ maxLen) (hs2 : sy.size ≤ maxLen)
    (cs0 : w.cell? ⟨gs, 0, none⟩ = some (.string nm)) (cs1 : w.cell? ⟨gs, 1, none⟩ = some (.string sy)) (hgs : gs < w.heap.size) (hu : OwnU w gu 30 #[.string nm, .string sy, .int .i64 d0, .int .i64 d1, .int .i64 d2, .int .i64 d3, .int .i64 d4, .int .i64 d5, .int .i64 d6, .int .i64 d7, .string fn, .string fd, .string on, .string od, .int .i64 tk]) (cr : w.cell? ⟨gr, 0, none⟩ = some (.pointer (some ⟨r, 0, none⟩))) (hgr : gr < w.heap.size)
    (h23 : ∀ W, Below w.heap.size w W → Calls Tryz.prog 23 #[.agg #[.string nm, .string sy, .int .i64 d0, .int .i64 d1, .int .i64 d2, .int .i64 d3, .int .i64 d4, .int .i64 d5, .int .i64 d6, .int .i64 d7, .string fn, .string fd, .string on, .string od, .int .i64 tk]] W fun r w' => r = .returned (.bool true) ∧ Below W.heap.size W w')
    (hn1 : Maps.has D (.string nm.data.toList) = false) (hn2 : Maps.has D (.string sy.data.toList) = false) :
    Calls Tryz.prog 21 #[.pointer (some ⟨r, 0, none⟩), .agg #[.slice (some ⟨gs, 0, none⟩) 2 2, .func (.func 22) #[] #[.pointer (some ⟨gu, 0, none⟩)], .func (.func 24) #[] #[.pointer (some ⟨gr, 0, none⟩)], .func (.func 26) #[] #[.pointer (some ⟨gr, 0, none⟩), .pointer (some ⟨gu, 0, none⟩)]]] w fun e w' => e = .returned (.int .i64 0) ∧ (∃ p v', RG w' K base r m v' (ps ++ [p]) (us ++ [#[.string nm, .string sy, .int .i64 d0, .int .i64 d1, .int .i64 d2, .int .i64 d3, .int .i64 d4, .int .i64 d5, .int .i64 d6, .int .i64 d7, .string fn, .string fd, .string on, .string od, .int .i64 tk]]) (n + 2) ((D.put (.string nm.data.toList) (.lit (.bool true))).put (.string sy.data.toList) (.lit (.bool true)))) ∧ Below base w0 w' := by
  obtain ⟨av, cv, rfl⟩ := row_len h.row
  obtain ⟨V, hV⟩ : ∃ V, V = w.alloc (.cells #[.slice (some ⟨gs, 0, none⟩) 2 2, .func (.func 22) #[] #[.pointer (some ⟨gu, 0, none⟩)], .func (.func 24) #[] #[.pointer (some ⟨gr, 0, none⟩)], .func (.func 26) #[] #[.pointer (some ⟨gr, 0, none⟩), .pointer (some ⟨gu, 0, none⟩)]] 55) := ⟨_, rfl⟩
  have hbV : Below w.heap.size w V := by rw [hV]; exact (Below.refl _ _).alloc (Nat.le_refl _) _
  have HA : Hid (OwnU V w.heap.size 55 #[.slice (some ⟨gs, 0, none⟩) 2 2, .func (.func 22) #[] #[.pointer (some ⟨gu, 0, none⟩)], .func (.func 24) #[] #[.pointer (some ⟨gr, 0, none⟩)], .func (.func 26) #[] #[.pointer (some ⟨gr, 0, none⟩), .pointer (some ⟨gu, 0, none⟩)]]) := by rw [hV]; exact OwnU.new _ _ _
  obtain ⟨g3, hg3⟩ : ∃ g3, g3 = w.heap.size := ⟨_, rfl⟩
  have HR0 := hide (h.later hbV)
  have HB0 : Hid (Below base w0 V) := hb0.trans (hbV.mono h.bs)
  have HC0 : Hid (∀ W, Below V.heap.size V W → W.cell? ⟨gs, 0, none⟩ = some (.string nm) ∧ W.cell? ⟨gs, 1, none⟩ = some (.string sy) ∧ W.cell? ⟨gr, 0, none⟩ = some (.pointer (some ⟨r, 0, none⟩))) := fun W hW =>
    have hb := hbV.trans (hW.mono hbV.size)
    ⟨(hb.cell (p := ⟨gs, 0, none⟩) hgs).trans cs0, (hb.cell (p := ⟨gs, 1, none⟩) hgs).trans cs1, (hb.cell (p := ⟨gr, 0, none⟩) hgr).trans cr⟩
  have HU0 := hide (hu.later hbV)
  have H23 : Hid (∀ W, Below V.heap.size V W → Calls Tryz.prog 23 #[.agg #[.string nm, .string sy, .int .i64 d0, .int .i64 d1, .int .i64 d2, .int .i64 d3, .int .i64 d4, .int .i64 d5, .int .i64 d6, .int .i64 d7, .string fn, .string fd, .string on, .string od, .int .i64 tk]] W fun r w' => r = .returned (.bool true) ∧ Below W.heap.size W w') := fun W hW => h23 W (hbV.trans (hW.mono hbV.size))
  have HLN := hide hlen
  have HV := hide hV
  have HN1 := hide hn1; have HN2 := hide hn2
  have HZ : Hid (base ≤ V.heap.size) := (unhide HR0).bs
  clear h hbV hb0 hV hlen cs0 cs1 hgs hu cr hgr h23 hn1 hn2
  go_enter Tryz.func21, Tryz.ntmps21
  go_upto_region 1 with fail
  rw [← unhide HV, ← hg3]
  rw [← hg3] at HA
  clear HV hg3
  have a0 : V.cell? ⟨g3, 0, none⟩ = some (.slice (some ⟨gs, 0, none⟩) 2 2) := (unhide HA).ub.c 0 _ rfl
  have a1 : V.cell? ⟨g3, 1, none⟩ = some (.func (.func 22) #[] #[.pointer (some ⟨gu, 0, none⟩)]) := (unhide HA).ub.c 1 _ rfl
  go_upto_region 6 with (first
    | (go_at_call 35; go_must (refine (closed_any _ _ (unhide HR0).c3).mono ?_; rintro e W1 ⟨rfl, hw⟩; obtain rfl : V = W1 := hw.symm; clear hw))
    | (go_at_call 22; go_must (refine (add1_any nm sy fn fd on od d0 d1 d2 d3 d4 d5 d6 d7 tk gu _ (unhide HU0) (unhide H23)).mono ?_; rintro e W1 ⟨rfl, hb⟩; have HBW := hide hb; clear hb a0 a1)))
  have HR1 := hide ((unhide HR0).later (unhide HBW))
  have HA1 := hide ((unhide HA).later (unhide HBW))
  have HU1 := hide ((unhide HU0).later (unhide HBW))
  have HB1 : Hid (Below base w0 W1) := (unhide HB0).trans ((unhide HBW).mono (unhide HZ))
  have HC1 : Hid (∀ W, Below W1.heap.size W1 W → W.cell? ⟨gs, 0, none⟩ = some (.string nm) ∧ W.cell? ⟨gs, 1, none⟩ = some (.string sy) ∧ W.cell? ⟨gr, 0, none⟩ = some (.pointer (some ⟨r, 0, none⟩))) := fun W hW => unhide HC0 W ((unhide HBW).trans (hW.mono (unhide HBW).size))
  clear HR0 HA HU0 HB0 HC0 H23 HBW HZ
  have a0 : W1.cell? ⟨g3, 0, none⟩ = some (.slice (some ⟨gs, 0, none⟩) 2 2) := (unhide HA1).ub.c 0 _ rfl
  go_upto_region 7 with fail
  clear a0
  go_loopw [23] (fun s23 wr => (s23 = .int .i64 0 ∨ s23 = .int .i64 1 ∨ s23 = .int .i64 2) ∧ Hid (Below W1.heap.size W1 wr)) (fun s23 _ => 2 - (intOf s23).toNat)
  case atStart => exact ⟨Or.inl rfl, Below.refl _ _⟩
  case round =>
    obtain ⟨hs, HB⟩ := hrel
    have hr2 := ((unhide HR1).later (unhide HB)).c2
    rcases hs with rfl | rfl | rfl
    · have cg := (unhide HC1 _ (unhide HB)).1
      have hlk := look_absent ((unhide HR1).later (unhide HB)).mp nm hs1 (unhide HN1)
      go_wp2_with fail
      go_roundw
      case rel => exact ⟨Or.inr (Or.inl rfl), (unhide HB).alloc (unhide HB).size _⟩
      case measure => simp [intOf]
    · have cg := (unhide HC1 _ (unhide HB)).2.1
      have hlk := look_absent ((unhide HR1).later (unhide HB)).mp sy hs2 (unhide HN2)
      go_wp2_with fail
      go_roundw
      case rel => exact ⟨Or.inr (Or.inr rfl), (unhide HB).alloc (unhide HB).size _⟩
      case measure => simp [intOf]
    · have HR2 := hide ((unhide HR1).later (unhide HB))
      have HA2 := hide ((unhide HA1).later (unhide HB))
      have HU2 := hide ((unhide HU1).later (unhide HB))
      have HB2 : Hid (Below base w0 wr) := (unhide HB1).trans ((unhide HB).mono (unhide HR1).bs)
      have cgr := (unhide HC1 _ (unhide HB)).2.2
      have a2 : wr.cell? ⟨g3, 2, none⟩ = some (.func (.func 24) #[] #[.pointer (some ⟨gr, 0, none⟩)]) := (unhide HA2).ub.c 2 _ rfl
      have a3 : wr.cell? ⟨g3, 3, none⟩ = some (.func (.func 26) #[] #[.pointer (some ⟨gr, 0, none⟩), .pointer (some ⟨gu, 0, none⟩)]) := (unhide HA2).ub.c 3 _ rfl
      have H27 : Hid (Calls Tryz.prog 27 #[.pointer (some ⟨r, 0, none⟩), .agg #[.string nm, .string sy, .int .i64 d0, .int .i64 d1, .int .i64 d2, .int .i64 d3, .int .i64 d4, .int .i64 d5, .int .i64 d6, .int .i64 d7, .string fn, .string fd, .string on, .string od, .int .i64 tk]] wr fun e w' => (∃ p : Nat, e = .returned (.pointer (some ⟨p, 0, none⟩))) ∧ ((∃ p v', RG w' K base r m v' (ps ++ [p]) (us ++ [#[.string nm, .string sy, .int .i64 d0, .int .i64 d1, .int .i64 d2, .int .i64 d3, .int .i64 d4, .int .i64 d5, .int .i64 d6, .int .i64 d7, .string fn, .string fd, .string on, .string od, .int .i64 tk]]) (n + 2) ((D.put (.string nm.data.toList) (.lit (.bool true))).put (.string sy.data.toList) (.lit (.bool true)))) ∧ Below base w0 w')) :=
        (putUnit_any nm sy fn fd on od d0 d1 d2 d3 d4 d5 d6 d7 tk base r m n _ ps us D w0 wr (unhide HR2) (unhide HLN) (unhide HB2) hmb hrb hn (by omega) hs1 hs2).mono (fun e w' hh => by
          obtain ⟨⟨p, v', e1, h2⟩, h3⟩ := hh
          exact ⟨⟨p, e1⟩, ⟨p, v', h2⟩, h3⟩)
      clear hr2
      go_wp2_with (first
        | (go_at_call 24; go_must (refine (add2_any gr r ps.length av cv _ (by omega) cgr (unhide HR2).c0).mono ?_; rintro e W2 ⟨rfl, hw⟩; obtain rfl : wr = W2 := hw.symm; clear hw))
        | (go_at_call 26; go_must (refine (add3_any nm sy fn fd on od d0 d1 d2 d3 d4 d5 d6 d7 tk gr gu r _ _ cgr (unhide HU2) (unhide H27)).mono ?_; rintro e W2 ⟨rfl, hq⟩; have HQ := hide hq; clear hq cgr a2 a3)))
      go_ret
      exact ⟨rfl, (unhide HQ).1, (unhide HQ).2⟩
end Go.Proofs.YtbjafaojcaafmaaGreatDoor

namespace Go.Proofs.YtbjafaojcaafmaaGreatDoor
open Go.RowKit Go.Maps Go.ChangeMaps Go.WideMaps
variable {K : Nat → Nat → Array Value → Prop}
set_option maxRecDepth 100000 in
set_option maxHeartbeats 2000000 in
theorem new_any (w : World) : Calls Tryz.prog 8 #[] w fun e w' => e = .returned (.pointer (some ⟨w.heap.size + 1, 0, none⟩)) ∧ RG w' (fun _ _ _ => False) w.heap.size (w.heap.size + 1) w.heap.size (.slice none 0 0) [] [] 0 (.map []) ∧ Below w.heap.size w w' := by
  have hmm := @run_makeMap Tryz.prog
  go_enter Tryz.func8, Tryz.ntmps8
  go_wp2_with fail
  go_ret
  have hm := World.ownsMap_made (H := Unit) w Tryz.prog 9 Rm
  refine ⟨by simp, ⟨?_, ?_, hm.alloc _, ?_, ?_, fun _ _ _ h => h.elim⟩, ?_⟩
  · have h := OwnU.new (w.alloc (.map #[] 0)) #[.slice none 0 0, .slice none 0 0, .map (some w.heap.size), .bool false] 46
    rw [Dm.size_alloc] at h
    exact h
  · exact World.ownsRow_nil _ _ _ _
  · intro i p u h1 _
    simp at h1
  · simp
    omega
  · exact ((Below.refl _ _).alloc (Nat.le_refl _) _).alloc (by simp) _
set_option maxRecDepth 100000 in
set_option maxHeartbeats 4000000 in
theorem add_any (nm sy fn fd on od : ByteArray) (d0 d1 d2 d3 d4 d5 d6 d7 tk : Int) (base r m n : Nat) (vs : Value) (ps : List Nat) (us : List (Array Value)) (D : DataW Unit) (w0 w : World) (h : RG w K base r m vs ps us n D) (hlen : us.length = ps.length) (hb0 : Below base w0 w) (hmb : base ≤ m) (hrb : base ≤ r) (hn : n + 2 < 1000000) (hps : ps.length < 500)
    (hs1 : nm.size ≤ maxLen) (hs2 : sy.size ≤ maxLen)
    (h23 : ∀ W, Below w.heap.size w W → Calls Tryz.prog 23 #[.agg #[.string nm, .string sy, .int .i64 d0, .int .i64 d1, .int .i64 d2, .int .i64 d3, .int .i64 d4, .int .i64 d5, .int .i64 d6, .int .i64 d7, .string fn, .string fd, .string on, .string od, .int .i64 tk]] W fun r w' => r = .returned (.bool true) ∧ Below W.heap.size W w')
    (hn1 : Maps.has D (.string nm.data.toList) = false) (hn2 : Maps.has D (.string sy.data.toList) = false) :
    Calls Tryz.prog 10 #[.pointer (some ⟨r, 0, none⟩), .agg #[.string nm, .string sy, .int .i64 d0, .int .i64 d1, .int .i64 d2, .int .i64 d3, .int .i64 d4, .int .i64 d5, .int .i64 d6, .int .i64 d7, .string fn, .string fd, .string on, .string od, .int .i64 tk]] w fun e w' => e = .returned (.int .i64 0) ∧ (∃ p v', RG w' K base r m v' (ps ++ [p]) (us ++ [#[.string nm, .string sy, .int .i64 d0, .int .i64 d1, .int .i64 d2, .int .i64 d3, .int .i64 d4, .int .i64 d5, .int .i64 d6, .int .i64 d7, .string fn, .string fd, .string on, .string od, .int .i64 tk]]) (n + 2) ((D.put (.string nm.data.toList) (.lit (.bool true))).put (.string sy.data.toList) (.lit (.bool true)))) ∧ Below base w0 w' := by
  obtain ⟨V, hV⟩ : ∃ V, V = (w.alloc (.cells #[.pointer (some ⟨r, 0, none⟩)] 32)).alloc (.cells #[.string nm, .string sy, .int .i64 d0, .int .i64 d1, .int .i64 d2, .int .i64 d3, .int .i64 d4, .int .i64 d5, .int .i64 d6, .int .i64 d7, .string fn, .string fd, .string on, .string od, .int .i64 tk] 30) := ⟨_, rfl⟩
  have hbV : Below w.heap.size w V := by rw [hV]; exact ((Below.refl _ _).alloc (Nat.le_refl _) _).alloc (by simp) _
  have HP0 : Hid (OwnU V w.heap.size 32 #[.pointer (some ⟨r, 0, none⟩)]) := by rw [hV]; exact (OwnU.new _ _ _).alloc _
  have HU0 : Hid (OwnU V (w.heap.size + 1) 30 #[.string nm, .string sy, .int .i64 d0, .int .i64 d1, .int .i64 d2, .int .i64 d3, .int .i64 d4, .int .i64 d5, .int .i64 d6, .int .i64 d7, .string fn, .string fd, .string on, .string od, .int .i64 tk]) := by rw [hV]; have h := OwnU.new (w.alloc (.cells #[.pointer (some ⟨r, 0, none⟩)] 32)) #[.string nm, .string sy, .int .i64 d0, .int .i64 d1, .int .i64 d2, .int .i64 d3, .int .i64 d4, .int .i64 d5, .int .i64 d6, .int .i64 d7, .string fn, .string fd, .string on, .string od, .int .i64 tk] 30; rw [Dm.size_alloc] at h; exact h
  have HR0 := hide (h.later hbV)
  have HB0 : Hid (Below base w0 V) := hb0.trans (hbV.mono h.bs)
  have H23 : Hid (∀ W, Below V.heap.size V W → Calls Tryz.prog 23 #[.agg #[.string nm, .string sy, .int .i64 d0, .int .i64 d1, .int .i64 d2, .int .i64 d3, .int .i64 d4, .int .i64 d5, .int .i64 d6, .int .i64 d7, .string fn, .string fd, .string on, .string od, .int .i64 tk]] W fun r w' => r = .returned (.bool true) ∧ Below W.heap.size W w') := fun W hW => h23 W (hbV.trans (hW.mono hbV.size))
  have HLN := hide hlen
  have HV := hide hV
  have HN1 := hide hn1; have HN2 := hide hn2
  obtain ⟨g2, hg2⟩ : ∃ g2, g2 = w.heap.size := ⟨_, rfl⟩
  obtain ⟨g3, hg3⟩ : ∃ g3, g3 = w.heap.size + 1 := ⟨_, rfl⟩
  clear h hbV hb0 hV hlen h23 hn1 hn2
  go_enter Tryz.func10, Tryz.ntmps10
  go_upto_region 1 with fail
  rw [← unhide HV, ← hg3, ← hg2]
  rw [← hg2] at HP0
  rw [← hg3] at HU0
  clear HV hg2 hg3
  have p0 : V.cell? ⟨g2, 0, none⟩ = some (.pointer (some ⟨r, 0, none⟩)) := (unhide HP0).ub.c 0 _ rfl
  have u0 : V.cell? ⟨g3, 0, none⟩ = some (.string nm) := (unhide HU0).ub.c 0 _ rfl
  have u1 : V.cell? ⟨g3, 1, none⟩ = some (.string sy) := (unhide HU0).ub.c 1 _ rfl
  have hbA : Below V.heap.size V (V.alloc (.cells #[.string nm, .string sy] 9)) := (Below.refl _ _).alloc (Nat.le_refl _) _
  have HS : Hid (OwnU (V.alloc (.cells #[.string nm, .string sy] 9)) V.heap.size 9 #[.string nm, .string sy]) := OwnU.new _ _ _
  have HTK : Hid (Calls Tryz.prog 21 #[.pointer (some ⟨r, 0, none⟩), .agg #[.slice (some ⟨V.heap.size, 0, none⟩) 2 2, .func (.func 22) #[] #[.pointer (some ⟨g3, 0, none⟩)], .func (.func 24) #[] #[.pointer (some ⟨g2, 0, none⟩)], .func (.func 26) #[] #[.pointer (some ⟨g2, 0, none⟩), .pointer (some ⟨g3, 0, none⟩)]]] (V.alloc (.cells #[.string nm, .string sy] 9)) fun e w' => e = .returned (.int .i64 0) ∧ (∃ p v', RG w' K base r m v' (ps ++ [p]) (us ++ [#[.string nm, .string sy, .int .i64 d0, .int .i64 d1, .int .i64 d2, .int .i64 d3, .int .i64 d4, .int .i64 d5, .int .i64 d6, .int .i64 d7, .string fn, .string fd, .string on, .string od, .int .i64 tk]]) (n + 2) ((D.put (.string nm.data.toList) (.lit (.bool true))).put (.string sy.data.toList) (.lit (.bool true)))) ∧ Below base w0 w') :=
    take_any nm sy fn fd on od d0 d1 d2 d3 d4 d5 d6 d7 tk base r m n V.heap.size g3 g2 vs ps us D w0 _ ((unhide HR0).later hbA) (unhide HLN) ((unhide HB0).trans (hbA.mono (unhide HR0).bs)) hmb hrb hn hps hs1 hs2
      ((unhide HS).ub.c 0 _ rfl) ((unhide HS).ub.c 1 _ rfl) (unhide HS).lt ((unhide HU0).later hbA) (((unhide HP0).later hbA).ub.c 0 _ rfl) ((unhide HP0).later hbA).lt (fun W hW => unhide H23 W (hbA.trans (hW.mono hbA.size))) (unhide HN1) (unhide HN2)
  clear hbA
  go_wp2_with (go_at_call 21; go_must (refine (unhide HTK).mono ?_; rintro e W1 ⟨rfl, hq⟩; have HQ := hide hq; clear hq p0 u0 u1))
  go_ret
  exact ⟨rfl, unhide HQ⟩
end Go.Proofs.YtbjafaojcaafmaaGreatDoor

namespace Go.Proofs.YtbjafaojcaafmaaGreatDoor
open Go.RowKit Go.Maps Go.ChangeMaps Go.WideMaps
variable {K : Nat → Nat → Array Value → Prop}
theorem info30 : (Tryz.prog.info? 30).map (fun i => (i.zero, i.size, i.bytes)) = some (some (.agg #[.string ⟨#[]⟩, .string ⟨#[]⟩, .int .i64 0, .int .i64 0, .int .i64 0, .int .i64 0, .int .i64 0, .int .i64 0, .int .i64 0, .int .i64 0, .string ⟨#[]⟩, .string ⟨#[]⟩, .string ⟨#[]⟩, .string ⟨#[]⟩, .int .i64 0]), 15, 168) := by kernel_rfl
theorem under22u : Tryz.prog.underlying 22 = some (.slice 30) := by kernel_rfl
def IsU (u : Array Value) : Prop := ∃ (nm sy fn fd on od : ByteArray) (d0 d1 d2 d3 d4 d5 d6 d7 tk : Int), u = #[.string nm, .string sy, .int .i64 d0, .int .i64 d1, .int .i64 d2, .int .i64 d3, .int .i64 d4, .int .i64 d5, .int .i64 d6, .int .i64 d7, .string fn, .string fd, .string on, .string od, .int .i64 tk]
def flatU (us : List (Array Value)) (k : Nat) : List Value := (us.take k).flatMap Array.toList
theorem flatU_succ (us : List (Array Value)) (k : Nat) (u : Array Value) (h : us[k]? = some u) : flatU us (k + 1) = flatU us k ++ u.toList := by
  unfold flatU
  rw [List.take_add_one, List.flatMap_append, h]
  simp
theorem news15 (W : World) (x0 x1 x2 x3 x4 x5 x6 x7 x8 x9 x10 x11 x12 x13 x14 : Value) (ty : Nat) : ∀ j u, [x0, x1, x2, x3, x4, x5, x6, x7, x8, x9, x10, x11, x12, x13, x14][j]? = some u → (W.alloc (.cells #[x0, x1, x2, x3, x4, x5, x6, x7, x8, x9, x10, x11, x12, x13, x14] ty)).cell? ((⟨W.heap.size, 0, none⟩ : Addr).add j) = some u := by
  intro j u hu
  have h := (OwnU.new W #[x0, x1, x2, x3, x4, x5, x6, x7, x8, x9, x10, x11, x12, x13, x14] ty).ub.c j u (by simpa using hu)
  have e : (⟨W.heap.size, 0, none⟩ : Addr).add j = ⟨W.heap.size, j, none⟩ := by by_cases hj : j = 0 <;> simp [Addr.add, hj]
  rw [e]
  exact h
theorem one15 (nm sy fn fd on od : ByteArray) (d0 d1 d2 d3 d4 d5 d6 d7 tk : Int) : ∀ u ∈ ([.string nm, .string sy, .int .i64 d0, .int .i64 d1, .int .i64 d2, .int .i64 d3, .int .i64 d4, .int .i64 d5, .int .i64 d6, .int .i64 d7, .string fn, .string fd, .string on, .string od, .int .i64 tk] : List Value), u.oneCell' = true := by
  intro u hu
  simp only [List.mem_cons, List.not_mem_nil, or_false] at hu
  rcases hu with rfl | rfl | rfl | rfl | rfl | rfl | rfl | rfl | rfl | rfl | rfl | rfl | rfl | rfl | rfl <;> rfl
set_option maxRecDepth 100000 in
set_option maxHeartbeats 4000000 in
theorem units_any (base r m n : Nat) (vs : Value) (ps : List Nat) (us : List (Array Value)) (D : DataW Unit) (w : World) (h : RG w K base r m vs ps us n D) (hlen : us.length = ps.length) (h0 : 0 < ps.length) (hps : ps.length < 500) (hU : ∀ (k : Nat) u, us[k]? = some u → IsU u) :
    Calls Tryz.prog 12 #[.pointer (some ⟨r, 0, none⟩)] w fun e w' => ∃ v, e = .returned v ∧ w'.ownsRow w.heap.size 30 15 v ps.length (flatU us ps.length) ∧ Below w.heap.size w w' := by
  obtain ⟨i0, hi, hz0, hz1, hz2⟩ := info_parts info30
  obtain ⟨g, cap, rfl⟩ := Joins.ownsRow_form h.row h0
  have c0 := h.c0
  have HC : Hid (∀ W, Below w.heap.size w W → ∀ k p, ps[k]? = some p → W.cell? ⟨g, k, none⟩ = some (.pointer (some ⟨p, 0, none⟩))) := fun W hW k p hk => by
    have hg := (h.row.lt g rfl).2
    rw [hW.cell (p := ⟨g, k, none⟩) hg, h.row.cellAt k (by have := (List.getElem?_eq_some_iff.1 hk).1; omega)]
    simp [hk]
  have HR := hide h
  have HL := hide hlen
  obtain ⟨N, hN⟩ : ∃ N, N = ps.length := ⟨_, rfl⟩
  rw [← hN] at h0 hps ⊢ c0
  have HN := hide hN
  have HUU := hide hU
  clear h hlen hN hU
  go_enter Tryz.func12, Tryz.ntmps12
  go_upto_region 5 with fail
  go_loopw [3, 13] (fun s3 s13 wr => ∃ (k : Nat) (v : Value), k ≤ N ∧ v = s3 ∧ s13 = .int .i64 (k : Int) ∧ Hid (wr.ownsRow w.heap.size 30 15 v k (flatU us k)) ∧ Hid (Below w.heap.size w wr)) (fun _ s13 _ => N - (intOf s13).toNat)
  case atStart => exact ⟨0, _, by omega, rfl, rfl, World.ownsRow_nil _ _ _ _, Below.refl _ _⟩
  case round =>
    obtain ⟨k, v, hk, rfl, rfl, HO, HB⟩ := hrel
    clear c0
    by_cases hlt : k < N
    · have hkI : (k : Int) < N := by omega
      have hk0 : (0 : Int) ≤ (k : Int) := by omega
      obtain ⟨p, hp⟩ : ∃ p, ps[k]? = some p := ⟨_, List.getElem?_eq_getElem (by rw [← unhide HN]; exact hlt)⟩
      obtain ⟨u, hu⟩ : ∃ u, us[k]? = some u := ⟨_, List.getElem?_eq_getElem (by rw [unhide HL, ← unhide HN]; exact hlt)⟩
      have HF := hide (flatU_succ us k u hu)
      obtain ⟨nm, sy, fn, fd, on, od, d0, d1, d2, d3, d4, d5, d6, d7, tk, rfl⟩ := unhide HUU k u hu
      have cg := unhide HC wr (unhide HB) k p hp
      have u0 : wr.cell? ⟨p, 0, none⟩ = some (.string nm) := ((unhide HR).un k p _ hp hu |>.later (unhide HB)).ub.c 0 _ rfl; have u1 : wr.cell? ⟨p, 1, none⟩ = some (.string sy) := ((unhide HR).un k p _ hp hu |>.later (unhide HB)).ub.c 1 _ rfl; have u2 : wr.cell? ⟨p, 2, none⟩ = some (.int .i64 d0) := ((unhide HR).un k p _ hp hu |>.later (unhide HB)).ub.c 2 _ rfl; have u3 : wr.cell? ⟨p, 3, none⟩ = some (.int .i64 d1) := ((unhide HR).un k p _ hp hu |>.later (unhide HB)).ub.c 3 _ rfl; have u4 : wr.cell? ⟨p, 4, none⟩ = some (.int .i64 d2) := ((unhide HR).un k p _ hp hu |>.later (unhide HB)).ub.c 4 _ rfl; have u5 : wr.cell? ⟨p, 5, none⟩ = some (.int .i64 d3) := ((unhide HR).un k p _ hp hu |>.later (unhide HB)).ub.c 5 _ rfl; have u6 : wr.cell? ⟨p, 6, none⟩ = some (.int .i64 d4) := ((unhide HR).un k p _ hp hu |>.later (unhide HB)).ub.c 6 _ rfl; have u7 : wr.cell? ⟨p, 7, none⟩ = some (.int .i64 d5) := ((unhide HR).un k p _ hp hu |>.later (unhide HB)).ub.c 7 _ rfl; have u8 : wr.cell? ⟨p, 8, none⟩ = some (.int .i64 d6) := ((unhide HR).un k p _ hp hu |>.later (unhide HB)).ub.c 8 _ rfl; have u9 : wr.cell? ⟨p, 9, none⟩ = some (.int .i64 d7) := ((unhide HR).un k p _ hp hu |>.later (unhide HB)).ub.c 9 _ rfl; have u10 : wr.cell? ⟨p, 10, none⟩ = some (.string fn) := ((unhide HR).un k p _ hp hu |>.later (unhide HB)).ub.c 10 _ rfl; have u11 : wr.cell? ⟨p, 11, none⟩ = some (.string fd) := ((unhide HR).un k p _ hp hu |>.later (unhide HB)).ub.c 11 _ rfl; have u12 : wr.cell? ⟨p, 12, none⟩ = some (.string on) := ((unhide HR).un k p _ hp hu |>.later (unhide HB)).ub.c 12 _ rfl; have u13 : wr.cell? ⟨p, 13, none⟩ = some (.string od) := ((unhide HR).un k p _ hp hu |>.later (unhide HB)).ub.c 13 _ rfl; have u14 : wr.cell? ⟨p, 14, none⟩ = some (.int .i64 tk) := ((unhide HR).un k p _ hp hu |>.later (unhide HB)).ub.c 14 _ rfl
      clear hp hu
      go_upto_region 7 with fail
      go_wp2_with (at_builtin; go_must (refine wpList_append_own _ rfl _ _ 22 rfl w.heap.size 30 i0 (.agg #[.string ⟨#[]⟩, .string ⟨#[]⟩, .int .i64 0, .int .i64 0, .int .i64 0, .int .i64 0, .int .i64 0, .int .i64 0, .int .i64 0, .int .i64 0, .string ⟨#[]⟩, .string ⟨#[]⟩, .string ⟨#[]⟩, .string ⟨#[]⟩, .int .i64 0]) 15 168 under22u hi hz0 hz1 hz2 rfl (by decide) _ k (flatU us k) rfl ((unhide HO).alloc _) ⟨wr.heap.size, 0, none⟩ 1 1 [.string nm, .string sy, .int .i64 d0, .int .i64 d1, .int .i64 d2, .int .i64 d3, .int .i64 d4, .int .i64 d5, .int .i64 d6, .int .i64 d7, .string fn, .string fd, .string on, .string od, .int .i64 tk] rfl rfl (news15 _ _ _ _ _ _ _ _ _ _ _ _ _ _ _ _ _) (one15 _ _ _ _ _ _ _ _ _ _ _ _ _ _ _) (by unfold maxLen; omega) (by omega) (by have h1 := (unhide HB).size; simp; omega) ?_; intro v2 wa hown hgrow hnil; have HOW := hide hown; have HB4 : Hid (Below w.heap.size w wa) := ((unhide HB).alloc (unhide HB).size _).grown hgrow (by have h1 := (unhide HB).size; simp; omega) (fun j hj => ((unhide HO).lt j hj).1); clear hown hgrow hnil cg u0 u1 u2 u3 u4 u5 u6 u7 u8 u9 u10 u11 u12 u13 u14))
      go_roundw
      case rel =>
        refine ⟨k + 1, v2, by omega, rfl, by go_num, ?_, HB4⟩
        have h := unhide HOW
        rw [show flatU us k ++ [.string nm, .string sy, .int .i64 d0, .int .i64 d1, .int .i64 d2, .int .i64 d3, .int .i64 d4, .int .i64 d5, .int .i64 d6, .int .i64 d7, .string fn, .string fd, .string on, .string od, .int .i64 tk] = flatU us (k + 1) from (unhide HF).symm] at h
        exact h
      case measure => simp [intOf]; omega
    · have hkI : ¬ (k : Int) < N := by omega
      have HK : Hid (k = N) := by show k = N; omega
      go_wp2_with fail
      go_ret
      refine ⟨v, rfl, ?_, unhide HB⟩
      have h := unhide HO
      rw [unhide HK] at h
      exact h
end Go.Proofs.YtbjafaojcaafmaaGreatDoor

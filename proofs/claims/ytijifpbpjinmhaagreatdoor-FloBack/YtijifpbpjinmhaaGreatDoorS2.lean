/- decimal (110) over every room: its outcomes. -/
import Derived.Test.YtijifpbpjinmhaaGreatDoorS1
set_option maxHeartbeats 4000000
set_option maxRecDepth 100000
namespace Go.Proofs.YtijifpbpjinmhaaGreatDoor
open Go.RowKit
theorem within_eq (a5 : Option Addr) (l5 c5 : Nat) (a6 : Option Addr) (l6 c6 : Nat) (a7 : Option Addr) (l7 c7 : Nat) (a8 : Option Addr) (l8 c8 : Nat) (m n D k gs : Nat) (gr : Nat) (w : World) (hm : IsBig w (.agg #[.slice a7 l7 c7]) m) (hn : IsBig w (.agg #[.slice a8 l8 c8]) n) (hd : IsBig w (.agg #[.slice a6 l6 c6]) D) (hs : OwnU w gs 54 #[.slice a5 l5 c5, .slice a6 l6 c6]) (hk : k ≤ 1000000) (hnl : n < 1000000000 ^ k) (hdl : D < 1000000000 ^ k) (hh : m = n * D) (RV : Array Value) (ev : Bool) (hrv : OwnU w gr 128 RV) (hev : RV[4]? = some (.bool ev)) :
    Calls Tryz.prog 160 #[.agg #[.slice a7 l7 c7], .agg #[.slice a8 l8 c8], .pointer (some ⟨gs, 0, none⟩), .pointer (some ⟨gr, 0, none⟩)] w fun e w' => e = .returned (.bool ev) ∧ Below w.heap.size w w' := by
  have hfs : ∀ W, Below w.heap.size w W → OwnU W gs 54 #[.slice a5 l5 c5, .slice a6 l6 c6] := fun W hb => hs.later hb
  obtain ⟨V, hV⟩ : ∃ V, V = ((w.alloc (.cells #[.slice a7 l7 c7] 51)).alloc (.cells #[.slice a8 l8 c8] 51)) := ⟨_, rfl⟩
  have HS0 : Hid (St w [((w.heap.size + 1), 51, #[.slice a8 l8 c8]), (w.heap.size, 51, #[.slice a7 l7 c7])] [(.agg #[.slice a6 l6 c6], D), (.agg #[.slice a8 l8 c8], n), (.agg #[.slice a7 l7 c7], m)] V) := by rw [hV]; have h := ((((((St.nil (Below.refl _ w)).push hm).push hn).push hd).new #[.slice a7 l7 c7] 51).new #[.slice a8 l8 c8] 51); (try simp only [World.size_alloc] at h); exact h
  have HV := hide hV
  have HFS := hide hfs
  have HK := hide hk
  have HNL := hide hnl
  have HDL := hide hdl
  have HH := hide hh
  have HRV : Hid (∀ W, Below w.heap.size w W → W.cell? ⟨gr, 4, none⟩ = some (.bool ev)) := fun W hb => (hrv.later hb).ub.c 4 _ hev
  clear hV hm hn hd hs hfs hk hnl hdl hh hrv hev
  go_enter Tryz.func160, Tryz.ntmps160
  go_upto_region 1 with fail
  rw [← unhide HV]
  clear HV
  refine region_reads 6 (fun _ => True) (fun W' => W'.cell? ⟨w.heap.size, 0, none⟩ = some (.slice a7 l7 c7) ∧ W'.cell? ⟨(w.heap.size + 1), 0, none⟩ = some (.slice a8 l8 c8) ∧ W'.cell? ⟨gs, 1, none⟩ = some (.slice a6 l6 c6)) 7 rfl (by kernel_rfl) ?_
  have HS1 := hide ((unhide HS0).later ((Below.refl _ _).drew))
  clear HS0
  generalize V.drew = U0 at *
  refine wpR_take7 (i := 0) (oi := _) (v := .agg #[.slice a7 l7 c7]) rfl (by kernel_rfl) (by kernel_rfl) (by kernel_rfl) (by kernel_rfl) (fun _ _ _ h => h) (Or.inl ⟨by rfl, ?_⟩) ⟨trivial, ⟨((unhide HS1).at 1 rfl).ub.c 0 _ rfl, ((unhide HS1).at 0 rfl).ub.c 0 _ rfl, (unhide HFS _ (unhide HS1).below).ub.c 1 _ rfl⟩⟩ ?_
  · intro W' hW
    go_split_ands
    go_simp
  refine wpR_take7 (i := 1) (oi := _) (v := .agg #[.slice a8 l8 c8]) rfl (by kernel_rfl) (by kernel_rfl) (by kernel_rfl) (by kernel_rfl) (fun _ _ _ h => h) (Or.inl ⟨by rfl, ?_⟩) ⟨trivial, ⟨((unhide HS1).at 1 rfl).ub.c 0 _ rfl, ((unhide HS1).at 0 rfl).ub.c 0 _ rfl, (unhide HFS _ (unhide HS1).below).ub.c 1 _ rfl⟩⟩ ?_
  · intro W' hW
    go_split_ands
    go_simp
  refine wpR_take7 (i := 2) (oi := _) (v := .pointer (some ⟨gs, 1, none⟩)) rfl (by kernel_rfl) (by kernel_rfl) (by kernel_rfl) (by kernel_rfl) (fun _ _ _ h => h) (Or.inl ⟨by rfl, ?_⟩) ⟨trivial, ⟨((unhide HS1).at 1 rfl).ub.c 0 _ rfl, ((unhide HS1).at 0 rfl).ub.c 0 _ rfl, (unhide HFS _ (unhide HS1).below).ub.c 1 _ rfl⟩⟩ ?_
  · intro W' hW
    go_split_ands
    go_simp
  refine wpR_take7 (i := 3) (oi := _) (v := .agg #[.slice a6 l6 c6]) rfl (by kernel_rfl) (by kernel_rfl) (by kernel_rfl) (by kernel_rfl) (fun _ _ _ h => h) (Or.inl ⟨by rfl, ?_⟩) ⟨trivial, ⟨((unhide HS1).at 1 rfl).ub.c 0 _ rfl, ((unhide HS1).at 0 rfl).ub.c 0 _ rfl, (unhide HFS _ (unhide HS1).below).ub.c 1 _ rfl⟩⟩ ?_
  · intro W' hW
    go_split_ands
    go_simp
  refine wpR_op (i := 4) (o := _) (by kernel_rfl) rfl rfl (fun K hK => ?_)
  go_simp
  refine (mulB _ _ n D (n * D) k _ ((unhide HS1).bgt 1 rfl) ((unhide HS1).bgt 0 rfl) (unhide HK) (unhide HNL) (unhide HDL) rfl).mono ?_
  rintro e U1 ⟨a9, l9, c9, rfl, hv, hb⟩
  have HS2 := hide (((unhide HS1).later hb).push hv)
  clear HS1
  clear hv hb
  refine hK _ _ ⟨trivial, ⟨((unhide HS2).at 1 rfl).ub.c 0 _ rfl, ((unhide HS2).at 0 rfl).ub.c 0 _ rfl, (unhide HFS _ (unhide HS2).below).ub.c 1 _ rfl⟩⟩ ?_
  clear hK K
  refine wpR_op (i := 5) (o := _) (by kernel_rfl) rfl rfl (fun K hK => ?_)
  go_simp
  refine (cmp_any _ _ m (n * D) _ ((unhide HS2).bgt 3 rfl) ((unhide HS2).bgt 0 rfl)).mono ?_
  rintro e U2 ⟨rfl, hb⟩
  have HS3 := hide ((unhide HS2).later hb)
  clear HS2
  clear hb
  refine hK _ _ ⟨trivial, ⟨((unhide HS3).at 1 rfl).ub.c 0 _ rfl, ((unhide HS3).at 0 rfl).ub.c 0 _ rfl, (unhide HFS _ (unhide HS3).below).ub.c 1 _ rfl⟩⟩ ?_
  clear hK K
  have hee := unhide HH
  rw [show Cub.cmpN m (n * D) = 0 by rw [hee]; exact cmpN_eq' _]
  clear hee
  refine wpR_late (i := 6) (o := _) (by kernel_rfl) rfl rfl (by kernel_rfl) (fun K hK => ?_)
  go_simp
  refine hK _ _ (⟨((unhide HS3).at 1 rfl).ub.c 0 _ rfl, ((unhide HS3).at 0 rfl).ub.c 0 _ rfl, (unhide HFS _ (unhide HS3).below).ub.c 1 _ rfl⟩) ?_
  clear hK K
  refine wpR_done (by kernel_rfl) ?_
  have u4 := unhide HRV _ (unhide HS3).below
  go_wp2_with fail
  go_ret
  exact ⟨by simp, (unhide HS3).below⟩
/-- Whether a way is within a reach. -/
def wB (m n D : Nat) (ev : Bool) : Bool := decide (m < n * D) || (decide (m = n * D) && ev)
theorem within_any (a5 : Option Addr) (l5 c5 : Nat) (a6 : Option Addr) (l6 c6 : Nat) (a7 : Option Addr) (l7 c7 : Nat) (a8 : Option Addr) (l8 c8 : Nat) (m n D k gs gr : Nat) (w : World) (hm : IsBig w (.agg #[.slice a7 l7 c7]) m) (hn : IsBig w (.agg #[.slice a8 l8 c8]) n) (hd : IsBig w (.agg #[.slice a6 l6 c6]) D) (hs : OwnU w gs 54 #[.slice a5 l5 c5, .slice a6 l6 c6]) (hk : k ≤ 1000000) (hnl : n < 1000000000 ^ k) (hdl : D < 1000000000 ^ k) (RV : Array Value) (ev : Bool) (hrv : OwnU w gr 128 RV) (hev : RV[4]? = some (.bool ev)) :
    Calls Tryz.prog 160 #[.agg #[.slice a7 l7 c7], .agg #[.slice a8 l8 c8], .pointer (some ⟨gs, 0, none⟩), .pointer (some ⟨gr, 0, none⟩)] w fun e w' => e = .returned (.bool (wB m n D ev)) ∧ Below w.heap.size w w' := by
  rcases Nat.lt_trichotomy m (n * D) with h | h | h
  · rw [show wB m n D ev = true by unfold wB; rw [decide_eq_true h]; rfl]
    exact within_yes a5 l5 c5 a6 l6 c6 a7 l7 c7 a8 l8 c8 m n D k gs gr w hm hn hd hs hk hnl hdl h
  · rw [show wB m n D ev = ev by unfold wB; rw [decide_eq_false (by omega), decide_eq_true h]; rfl]
    exact within_eq a5 l5 c5 a6 l6 c6 a7 l7 c7 a8 l8 c8 m n D k gs gr w hm hn hd hs hk hnl hdl h RV ev hrv hev
  · rw [show wB m n D ev = false by unfold wB; rw [decide_eq_false (by omega), decide_eq_false (by omega)]; rfl]
    exact within_no a5 l5 c5 a6 l6 c6 a7 l7 c7 a8 l8 c8 m n D k gs gr w hm hn hd hs hk hnl hdl h
theorem addD (x y : Value) (m k : Nat) (w : World) (hx : IsBig w x m) (hy : IsBig w y 1) (hk : k ≤ 500000 ∧ m < 1000000000 ^ k ∧ 1 < 1000000000 ^ k) :
    Calls Tryz.prog 164 #[x, y] w fun e w' => ∃ a l c, e = .returned (.agg #[.slice a l c]) ∧ IsBig w' (.agg #[.slice a l c]) (m + 1) ∧ Below w.heap.size w w' := by
  refine (add_any x y m 1 k w hx hy (by omega) hk.2.1 hk.2.2).mono ?_
  rintro e w' ⟨v, rfl, hv, hb⟩
  obtain ⟨a, l, c, rfl⟩ := hv.shape
  exact ⟨a, l, c, rfl, hv, hb⟩
/-- Which decimal is told, if one is. -/
def decO (l h : Bool) (over under d : Nat) : Option Nat := if (l && h) = true then (if over < under ∨ (over = under ∧ d % 2 = 0) then some d else some (d + 1)) else if l = true then some d else if h = true then some (d + 1) else none
theorem decimal_any (a1 : Option Addr) (l1 c1 : Nat) (a2 : Option Addr) (l2 c2 : Nat) (a3 : Option Addr) (l3 c3 : Nat) (a4 : Option Addr) (l4 c4 : Nat) (ev : Bool) (tt bl ab den N D k : Nat) (kk nn nk : Int) (l h : Bool) (ov un dd : Nat) (w : World) (ha : IsBig w (.agg #[.slice a1 l1 c1]) tt) (hb0 : IsBig w (.agg #[.slice a2 l2 c2]) bl) (hc0 : IsBig w (.agg #[.slice a3 l3 c3]) ab) (hd0 : IsBig w (.agg #[.slice a4 l4 c4]) den) (hw0 : IntKind.i64.wrap (nn - kk) = nk) (ht : ∀ W, Calls Tryz.prog 48 #[.int .i64 nk] W fun e w' => ∃ v, e = .returned v ∧ IsSz w' v N D ∧ Below W.heap.size W w') (hk : k ≤ 250000) (hd1 : 0 < den)
    (hl : tt < 1000000000 ^ k ∧ bl < 1000000000 ^ k ∧ ab < 1000000000 ^ k ∧ den < 1000000000 ^ k ∧ D < 1000000000 ^ k ∧ N < 1000000000 ^ k) (hN : 0 < N) (hov : tt * D % (den * N) = ov) (hdd : tt * D / (den * N) = dd) (hun : den * N - ov = un) (hl1 : wB ov bl D ev = l) (hh1 : wB un ab D ev = h) :
    Calls Tryz.prog 110 #[.agg #[.slice a1 l1 c1, .slice a2 l2 c2, .slice a3 l3 c3, .slice a4 l4 c4, .bool ev], .int .i64 kk, .int .i64 nn] w fun e w' => ∃ a l0 c, e = .returned (.tuple #[.agg #[.slice a l0 c], .bool (decO l h ov un dd).isSome]) ∧ IsBig w' (.agg #[.slice a l0 c]) ((decO l h ov un dd).getD 0) ∧ Below w.heap.size w w' := by
  have hk2 : k + k ≤ 500000 ∧ tt * D < 1000000000 ^ (k + k) ∧ 0 < den * N ∧ den * N < 1000000000 ^ (k + k) := ⟨by omega, by rw [Nat.pow_add]; exact Nat.mul_lt_mul'' hl.1 hl.2.2.2.2.1, Nat.mul_pos hd1 hN, by rw [Nat.pow_add]; exact Nat.mul_lt_mul'' hl.2.2.2.1 hl.2.2.2.2.2⟩
  have HK2 := hide hk2
  have hd1' := hd1
  clear hk2 hd1
  obtain ⟨V, hV⟩ : ∃ V, V = ((w.alloc (.cells #[.slice a1 l1 c1, .slice a2 l2 c2, .slice a3 l3 c3, .slice a4 l4 c4, .bool ev] 128)).alloc (.cells #[.slice none 0 0] 51)) := ⟨_, rfl⟩
  have HS0 : Hid (St w [((w.heap.size + 1), 51, #[.slice none 0 0]), (w.heap.size, 128, #[.slice a1 l1 c1, .slice a2 l2 c2, .slice a3 l3 c3, .slice a4 l4 c4, .bool ev])] [(.agg #[.slice a4 l4 c4], den), (.agg #[.slice a3 l3 c3], ab), (.agg #[.slice a2 l2 c2], bl), (.agg #[.slice a1 l1 c1], tt)] V) := by rw [hV]; have h := (((((((St.nil (Below.refl _ w)).push ha).push hb0).push hc0).push hd0).new #[.slice a1 l1 c1, .slice a2 l2 c2, .slice a3 l3 c3, .slice a4 l4 c4, .bool ev] 128).new #[.slice none 0 0] 51); (try simp only [World.size_alloc] at h); exact h
  have HV := hide hV
  have HT := hide ht
  have HK := hide hk
  have HL := hide hl
  have HOV := hide hov
  have HDD := hide hdd
  have HUN := hide hun
  have HL1 := hide hl1
  have HH1 := hide hh1
  have HDL : Hid (k + k ≤ 500000 ∧ dd < 1000000000 ^ (k + k) ∧ 1 < 1000000000 ^ (k + k)) := by
    have h2 := unhide HK2
    refine ⟨h2.1, by rw [← hdd]; exact Nat.lt_of_le_of_lt (Nat.div_le_self _ _) h2.2.1, ?_⟩
    have h3 := hl.2.2.2.2.2
    have h4 : 1000000000 ^ k ≤ 1000000000 ^ (k + k) := Nat.pow_le_pow_right (by decide) (by omega)
    omega
  have HOD : Hid (ov ≤ den * N) := by rw [← hov]; exact Nat.le_of_lt (Nat.mod_lt _ (Nat.mul_pos hd1' hN))
  clear hV ha hb0 hc0 hd0 ht hk hl hov hdd hun hl1 hh1 hN hd1'
  go_enter Tryz.func110, Tryz.ntmps110
  go_upto_region 1 with fail
  rw [← unhide HV]
  clear HV
  go_upto_region 2 with (first
    | (have hchk := HS0; clear hchk; go_at_call 48; go_must (refine (unhide HT _).mono ?_; rintro e U1 ⟨_, rfl, ⟨a5, l5, c5, a6, l6, c6, rfl, hv1, hv2⟩, hb⟩; have HS1 := hide ((((unhide HS0).later hb).push hv1).push hv2); clear HS0; clear hv1 hv2 hb))
    | (have hchk := HS1; clear hchk; refine storeT 54 2 info59 rfl (.tmp 8) (.tmp 20) rfl U1.heap.size #[.slice none 0 0, .slice none 0 0] #[.slice a5 l5 c5, .slice a6 l6 c6] rfl rfl rfl rfl (OwnU.new _ _ _) (by kernel_rfl) ?_))
  have HS2 := hide ((unhide HS1).new #[.slice none 0 0, .slice none 0 0] 54)
  clear HS1
  generalize U1.alloc (.cells #[.slice none 0 0, .slice none 0 0] 54) = U2 at *
  generalize U1.heap.size = g8 at *
  have HS3 := hide (((unhide HS2)).set (nz2 _ _ _ _ _ _) #[.slice a5 l5 c5, .slice a6 l6 c6])
  clear HS2
  generalize U2.setRow g8 #[.slice a5 l5 c5, .slice a6 l6 c6] = U3 at *
  have hpn : ∀ (a : Act) (v : Value), a.put none v = a := fun _ _ => rfl
  simp only [hpn]
  clear hpn
  have u0 := ((unhide HS3).at 2 rfl).ub.c 3 _ rfl
  have u1 := ((unhide HS3).at 0 rfl).ub.c 0 _ rfl
  go_upto_region 3 with (have hchk := HS3; clear hchk; go_at_call 99; go_must (refine (mulB _ _ den N (den * N) k _ ((unhide HS3).bgt 2 rfl) ((unhide HS3).bgt 1 rfl) (by have := unhide HK; omega) (unhide HL).2.2.2.1 (unhide HL).2.2.2.2.2 rfl).mono ?_; rintro e U4 ⟨a7, l7, c7, rfl, hv, hb⟩; have HS4 := hide (((unhide HS3).later hb).push hv); clear HS3; clear hv hb u0 u1))
  have HS5 := hide ((unhide HS4).new #[.slice a7 l7 c7] 51)
  clear HS4
  generalize U4.alloc (.cells #[.slice a7 l7 c7] 51) = U5 at *
  generalize U4.heap.size = g9 at *
  go_upto_region 4 with fail
  go_cut [11, 12] from 27 (fun s11 s12 wx => ∃ g11 g12 a9 l9 c9 a10 l10 c10, s11 = .pointer (some ⟨g11, 0, none⟩) ∧ s12 = .pointer (some ⟨g12, 0, none⟩) ∧ Hid (St w [(g12, 51, #[.slice a10 l10 c10]), (g11, 51, #[.slice a9 l9 c9]), (g9, 51, #[.slice a7 l7 c7]), (g8, 54, #[.slice a5 l5 c5, .slice a6 l6 c6]), ((w.heap.size + 1), 51, #[.slice none 0 0]), (w.heap.size, 128, #[.slice a1 l1 c1, .slice a2 l2 c2, .slice a3 l3 c3, .slice a4 l4 c4, .bool ev])] [(.agg #[.slice a10 l10 c10], ov), (.agg #[.slice a9 l9 c9], dd), (.agg #[.slice a7 l7 c7], den * N), (.agg #[.slice a6 l6 c6], D), (.agg #[.slice a5 l5 c5], N), (.agg #[.slice a4 l4 c4], den), (.agg #[.slice a3 l3 c3], ab), (.agg #[.slice a2 l2 c2], bl), (.agg #[.slice a1 l1 c1], tt)] wx))
  case first =>
    refine region_reads 12 (fun _ => True) (fun W' => W'.cell? ⟨w.heap.size, 0, none⟩ = some (.slice a1 l1 c1) ∧ W'.cell? ⟨g8, 1, none⟩ = some (.slice a6 l6 c6) ∧ W'.cell? ⟨g9, 0, none⟩ = some (.slice a7 l7 c7)) 14 rfl (by kernel_rfl) ?_
    have HS6 := hide ((unhide HS5).later ((Below.refl _ _).drew))
    clear HS5
    generalize U5.drew = X0 at *
    refine wpR_take7 (i := 0) (oi := _) (v := .pointer (some ⟨w.heap.size, 0, none⟩)) rfl (by kernel_rfl) (by kernel_rfl) (by kernel_rfl) (by kernel_rfl) (fun _ _ _ h => h) (Or.inl ⟨by rfl, ?_⟩) ⟨trivial, ⟨((unhide HS6).at 3 rfl).ub.c 0 _ rfl, ((unhide HS6).at 1 rfl).ub.c 1 _ rfl, ((unhide HS6).at 0 rfl).ub.c 0 _ rfl⟩⟩ ?_
    · intro W' hW
      go_split_ands
      go_simp
    refine wpR_take7 (i := 1) (oi := _) (v := .agg #[.slice a1 l1 c1]) rfl (by kernel_rfl) (by kernel_rfl) (by kernel_rfl) (by kernel_rfl) (fun _ _ _ h => h) (Or.inl ⟨by rfl, ?_⟩) ⟨trivial, ⟨((unhide HS6).at 3 rfl).ub.c 0 _ rfl, ((unhide HS6).at 1 rfl).ub.c 1 _ rfl, ((unhide HS6).at 0 rfl).ub.c 0 _ rfl⟩⟩ ?_
    · intro W' hW
      go_split_ands
      go_simp
    refine wpR_take7 (i := 2) (oi := _) (v := .pointer (some ⟨g8, 1, none⟩)) rfl (by kernel_rfl) (by kernel_rfl) (by kernel_rfl) (by kernel_rfl) (fun _ _ _ h => h) (Or.inl ⟨by rfl, ?_⟩) ⟨trivial, ⟨((unhide HS6).at 3 rfl).ub.c 0 _ rfl, ((unhide HS6).at 1 rfl).ub.c 1 _ rfl, ((unhide HS6).at 0 rfl).ub.c 0 _ rfl⟩⟩ ?_
    · intro W' hW
      go_split_ands
      go_simp
    refine wpR_take7 (i := 3) (oi := _) (v := .agg #[.slice a6 l6 c6]) rfl (by kernel_rfl) (by kernel_rfl) (by kernel_rfl) (by kernel_rfl) (fun _ _ _ h => h) (Or.inl ⟨by rfl, ?_⟩) ⟨trivial, ⟨((unhide HS6).at 3 rfl).ub.c 0 _ rfl, ((unhide HS6).at 1 rfl).ub.c 1 _ rfl, ((unhide HS6).at 0 rfl).ub.c 0 _ rfl⟩⟩ ?_
    · intro W' hW
      go_split_ands
      go_simp
    refine wpR_take7 (i := 5) (oi := _) (v := .agg #[.slice a7 l7 c7]) rfl (by kernel_rfl) (by kernel_rfl) (by kernel_rfl) (by kernel_rfl) (fun _ _ _ h => h) (Or.inl ⟨by rfl, ?_⟩) ⟨trivial, ⟨((unhide HS6).at 3 rfl).ub.c 0 _ rfl, ((unhide HS6).at 1 rfl).ub.c 1 _ rfl, ((unhide HS6).at 0 rfl).ub.c 0 _ rfl⟩⟩ ?_
    · intro W' hW
      go_split_ands
      go_simp
    refine wpR_three (i := 4) (j := 10) (m := 11) (by kernel_rfl) rfl rfl rfl rfl rfl rfl (fun K hK => ?_) (fun K hK => ?_) (fun K hK => ?_) 
    · go_simp
      refine (mulB _ _ tt D (tt * D) k _ ((unhide HS6).bgt 6 rfl) ((unhide HS6).bgt 1 rfl) (by have := unhide HK; omega) (unhide HL).1 (unhide HL).2.2.2.2.1 rfl).mono ?_
      rintro e X1 ⟨a8, l8, c8, rfl, hv, hb⟩
      have HS7 := hide (((unhide HS6).later hb).push hv)
      clear HS6
      clear hv hb
      refine hK _ _ ⟨trivial, ⟨((unhide HS7).at 3 rfl).ub.c 0 _ rfl, ((unhide HS7).at 1 rfl).ub.c 1 _ rfl, ((unhide HS7).at 0 rfl).ub.c 0 _ rfl⟩⟩ ?_
      clear hK K
      refine wpR_three (i := 6) (j := 10) (m := 11) (by kernel_rfl) rfl rfl rfl rfl rfl rfl (fun K hK => ?_) (fun K hK => ?_) (fun K hK => ?_) 
      · go_simp
        refine (divModB _ _ (tt * D) (den * N) (k + k) _ ((unhide HS7).bgt 0 rfl) ((unhide HS7).bgt 1 rfl) (unhide HK2).1 (unhide HK2).2.1 (unhide HK2).2.2.1).mono ?_
        rintro e X2 ⟨a9, l9, c9, a10, l10, c10, rfl, hv1, hv2, hb⟩
        rw [unhide HDD] at hv1
        rw [unhide HOV] at hv2
        have HS8 := hide ((((unhide HS7).later hb).push hv1).push hv2)
        clear HS7
        clear hv1 hv2 hb
        refine hK _ _ ⟨trivial, ⟨((unhide HS8).at 3 rfl).ub.c 0 _ rfl, ((unhide HS8).at 1 rfl).ub.c 1 _ rfl, ((unhide HS8).at 0 rfl).ub.c 0 _ rfl⟩⟩ ?_
        clear hK K
        refine wpR_take7 (i := 7) (oi := _) (v := .tuple #[.agg #[.slice a9 l9 c9], .agg #[.slice a10 l10 c10]]) rfl (by kernel_rfl) (by kernel_rfl) (by kernel_rfl) (by kernel_rfl) (fun _ _ _ h => h) (Or.inl ⟨by rfl, ?_⟩) ⟨trivial, ⟨((unhide HS8).at 3 rfl).ub.c 0 _ rfl, ((unhide HS8).at 1 rfl).ub.c 1 _ rfl, ((unhide HS8).at 0 rfl).ub.c 0 _ rfl⟩⟩ ?_
        · intro W' hW
          go_split_ands
          go_simp
        refine wpR_take7 (i := 8) (oi := _) (v := .agg #[.slice a9 l9 c9]) rfl (by kernel_rfl) (by kernel_rfl) (by kernel_rfl) (by kernel_rfl) (fun _ _ _ h => h) (Or.inl ⟨by rfl, ?_⟩) ⟨trivial, ⟨((unhide HS8).at 3 rfl).ub.c 0 _ rfl, ((unhide HS8).at 1 rfl).ub.c 1 _ rfl, ((unhide HS8).at 0 rfl).ub.c 0 _ rfl⟩⟩ ?_
        · intro W' hW
          go_split_ands
          go_simp
        refine wpR_take7 (i := 9) (oi := _) (v := .agg #[.slice a10 l10 c10]) rfl (by kernel_rfl) (by kernel_rfl) (by kernel_rfl) (by kernel_rfl) (fun _ _ _ h => h) (Or.inl ⟨by rfl, ?_⟩) ⟨trivial, ⟨((unhide HS8).at 3 rfl).ub.c 0 _ rfl, ((unhide HS8).at 1 rfl).ub.c 1 _ rfl, ((unhide HS8).at 0 rfl).ub.c 0 _ rfl⟩⟩ ?_
        · intro W' hW
          go_split_ands
          go_simp
        refine wpR_two (i := 10) (j := 11) (by kernel_rfl) rfl rfl rfl rfl (fun K hK => ?_) (fun K hK => ?_) 
        · go_simp
          have HS9 := hide ((unhide HS8).new #[.slice none 0 0] 51)
          clear HS8
          generalize X2.alloc (.cells #[.slice none 0 0] 51) = X3 at *
          generalize X2.heap.size = g11 at *
          refine hK _ _ ⟨trivial, ⟨((unhide HS9).at 4 rfl).ub.c 0 _ rfl, ((unhide HS9).at 2 rfl).ub.c 1 _ rfl, ((unhide HS9).at 1 rfl).ub.c 0 _ rfl⟩⟩ ?_
          clear hK K
          refine wpR_op (i := 11) (o := _) (by kernel_rfl) rfl rfl (fun K hK => ?_)
          go_simp
          have HS10 := hide ((unhide HS9).new #[.slice none 0 0] 51)
          clear HS9
          generalize X3.alloc (.cells #[.slice none 0 0] 51) = X4 at *
          generalize X3.heap.size = g12 at *
          refine hK _ _ ⟨trivial, ⟨((unhide HS10).at 5 rfl).ub.c 0 _ rfl, ((unhide HS10).at 3 rfl).ub.c 1 _ rfl, ((unhide HS10).at 2 rfl).ub.c 0 _ rfl⟩⟩ ?_
          clear hK K
          have u0 := ((unhide HS10).at 1 rfl).ub.c 0 _ rfl
          have u1 := ((unhide HS10).at 1 rfl).ub.f 0 (.slice none 0 0) rfl
          refine wpR_late (i := 12) (o := _) (by kernel_rfl) rfl rfl (by kernel_rfl) (fun K hK => ?_)
          go_simp
          clear u0 u1
          rw [((unhide HS10).at 1 rfl).set1]
          have HS11 := hide (((unhide HS10).rot).set (nz1 _ _ _) #[.slice a9 l9 c9])
          clear HS10
          generalize X4.setRow g11 #[.slice a9 l9 c9] = X5 at *
          refine hK _ _ (⟨((unhide HS11).at 4 rfl).ub.c 0 _ rfl, ((unhide HS11).at 2 rfl).ub.c 1 _ rfl, ((unhide HS11).at 1 rfl).ub.c 0 _ rfl⟩) ?_
          clear hK K
          have u0 := ((unhide HS11).at 5 rfl).ub.c 0 _ rfl
          have u1 := ((unhide HS11).at 5 rfl).ub.f 0 (.slice none 0 0) rfl
          refine wpR_late (i := 13) (o := _) (by kernel_rfl) rfl rfl (by kernel_rfl) (fun K hK => ?_)
          go_simp
          clear u0 u1
          rw [((unhide HS11).at 5 rfl).set1]
          have HS12 := hide (((unhide HS11).rot.rot.rot.rot.rot).set (nz1 _ _ _) #[.slice a10 l10 c10])
          clear HS11
          generalize X5.setRow g12 #[.slice a10 l10 c10] = X6 at *
          refine hK _ _ (⟨((unhide HS12).at 5 rfl).ub.c 0 _ rfl, ((unhide HS12).at 3 rfl).ub.c 1 _ rfl, ((unhide HS12).at 2 rfl).ub.c 0 _ rfl⟩) ?_
          clear hK K
          refine wpR_done (by kernel_rfl) ?_
          go_wp2_with fail
          go_meet
          exact ⟨g11, g12, a9, l9, c9, a10, l10, c10, rfl, rfl, hide (((unhide HS12)).no3)⟩
        · go_simp
          have HS9 := hide ((unhide HS8).new #[.slice none 0 0] 51)
          clear HS8
          generalize X2.alloc (.cells #[.slice none 0 0] 51) = X7 at *
          generalize X2.heap.size = g12 at *
          refine hK _ _ ⟨trivial, ⟨((unhide HS9).at 4 rfl).ub.c 0 _ rfl, ((unhide HS9).at 2 rfl).ub.c 1 _ rfl, ((unhide HS9).at 1 rfl).ub.c 0 _ rfl⟩⟩ ?_
          clear hK K
          refine wpR_op (i := 10) (o := _) (by kernel_rfl) rfl rfl (fun K hK => ?_)
          go_simp
          have HS10 := hide ((unhide HS9).new #[.slice none 0 0] 51)
          clear HS9
          generalize X7.alloc (.cells #[.slice none 0 0] 51) = X8 at *
          generalize X7.heap.size = g11 at *
          refine hK _ _ ⟨trivial, ⟨((unhide HS10).at 5 rfl).ub.c 0 _ rfl, ((unhide HS10).at 3 rfl).ub.c 1 _ rfl, ((unhide HS10).at 2 rfl).ub.c 0 _ rfl⟩⟩ ?_
          clear hK K
          have u0 := ((unhide HS10).at 0 rfl).ub.c 0 _ rfl
          have u1 := ((unhide HS10).at 0 rfl).ub.f 0 (.slice none 0 0) rfl
          refine wpR_late (i := 12) (o := _) (by kernel_rfl) rfl rfl (by kernel_rfl) (fun K hK => ?_)
          go_simp
          clear u0 u1
          rw [((unhide HS10).at 0 rfl).set1]
          have HS11 := hide (((unhide HS10)).set (nz1 _ _ _) #[.slice a9 l9 c9])
          clear HS10
          generalize X8.setRow g11 #[.slice a9 l9 c9] = X9 at *
          refine hK _ _ (⟨((unhide HS11).at 5 rfl).ub.c 0 _ rfl, ((unhide HS11).at 3 rfl).ub.c 1 _ rfl, ((unhide HS11).at 2 rfl).ub.c 0 _ rfl⟩) ?_
          clear hK K
          have u0 := ((unhide HS11).at 1 rfl).ub.c 0 _ rfl
          have u1 := ((unhide HS11).at 1 rfl).ub.f 0 (.slice none 0 0) rfl
          refine wpR_late (i := 13) (o := _) (by kernel_rfl) rfl rfl (by kernel_rfl) (fun K hK => ?_)
          go_simp
          clear u0 u1
          rw [((unhide HS11).at 1 rfl).set1]
          have HS12 := hide (((unhide HS11).rot).set (nz1 _ _ _) #[.slice a10 l10 c10])
          clear HS11
          generalize X9.setRow g12 #[.slice a10 l10 c10] = X10 at *
          refine hK _ _ (⟨((unhide HS12).at 4 rfl).ub.c 0 _ rfl, ((unhide HS12).at 2 rfl).ub.c 1 _ rfl, ((unhide HS12).at 1 rfl).ub.c 0 _ rfl⟩) ?_
          clear hK K
          refine wpR_done (by kernel_rfl) ?_
          go_wp2_with fail
          go_meet
          exact ⟨g11, g12, a9, l9, c9, a10, l10, c10, rfl, rfl, hide (((unhide HS12).rot.rot.rot.rot.rot.sw).no3)⟩
      · go_simp
        have HS8 := hide ((unhide HS7).new #[.slice none 0 0] 51)
        clear HS7
        generalize X1.alloc (.cells #[.slice none 0 0] 51) = X11 at *
        generalize X1.heap.size = g11 at *
        refine hK _ _ ⟨trivial, ⟨((unhide HS8).at 4 rfl).ub.c 0 _ rfl, ((unhide HS8).at 2 rfl).ub.c 1 _ rfl, ((unhide HS8).at 1 rfl).ub.c 0 _ rfl⟩⟩ ?_
        clear hK K
        refine wpR_two (i := 6) (j := 11) (by kernel_rfl) rfl rfl rfl rfl (fun K hK => ?_) (fun K hK => ?_) 
        · go_simp
          refine (divModB _ _ (tt * D) (den * N) (k + k) _ ((unhide HS8).bgt 0 rfl) ((unhide HS8).bgt 1 rfl) (unhide HK2).1 (unhide HK2).2.1 (unhide HK2).2.2.1).mono ?_
          rintro e X12 ⟨a9, l9, c9, a10, l10, c10, rfl, hv1, hv2, hb⟩
          rw [unhide HDD] at hv1
          rw [unhide HOV] at hv2
          have HS9 := hide ((((unhide HS8).later hb).push hv1).push hv2)
          clear HS8
          clear hv1 hv2 hb
          refine hK _ _ ⟨trivial, ⟨((unhide HS9).at 4 rfl).ub.c 0 _ rfl, ((unhide HS9).at 2 rfl).ub.c 1 _ rfl, ((unhide HS9).at 1 rfl).ub.c 0 _ rfl⟩⟩ ?_
          clear hK K
          refine wpR_take7 (i := 7) (oi := _) (v := .tuple #[.agg #[.slice a9 l9 c9], .agg #[.slice a10 l10 c10]]) rfl (by kernel_rfl) (by kernel_rfl) (by kernel_rfl) (by kernel_rfl) (fun _ _ _ h => h) (Or.inl ⟨by rfl, ?_⟩) ⟨trivial, ⟨((unhide HS9).at 4 rfl).ub.c 0 _ rfl, ((unhide HS9).at 2 rfl).ub.c 1 _ rfl, ((unhide HS9).at 1 rfl).ub.c 0 _ rfl⟩⟩ ?_
          · intro W' hW
            go_split_ands
            go_simp
          refine wpR_take7 (i := 8) (oi := _) (v := .agg #[.slice a9 l9 c9]) rfl (by kernel_rfl) (by kernel_rfl) (by kernel_rfl) (by kernel_rfl) (fun _ _ _ h => h) (Or.inl ⟨by rfl, ?_⟩) ⟨trivial, ⟨((unhide HS9).at 4 rfl).ub.c 0 _ rfl, ((unhide HS9).at 2 rfl).ub.c 1 _ rfl, ((unhide HS9).at 1 rfl).ub.c 0 _ rfl⟩⟩ ?_
          · intro W' hW
            go_split_ands
            go_simp
          refine wpR_take7 (i := 9) (oi := _) (v := .agg #[.slice a10 l10 c10]) rfl (by kernel_rfl) (by kernel_rfl) (by kernel_rfl) (by kernel_rfl) (fun _ _ _ h => h) (Or.inl ⟨by rfl, ?_⟩) ⟨trivial, ⟨((unhide HS9).at 4 rfl).ub.c 0 _ rfl, ((unhide HS9).at 2 rfl).ub.c 1 _ rfl, ((unhide HS9).at 1 rfl).ub.c 0 _ rfl⟩⟩ ?_
          · intro W' hW
            go_split_ands
            go_simp
          refine wpR_op (i := 11) (o := _) (by kernel_rfl) rfl rfl (fun K hK => ?_)
          go_simp
          have HS10 := hide ((unhide HS9).new #[.slice none 0 0] 51)
          clear HS9
          generalize X12.alloc (.cells #[.slice none 0 0] 51) = X13 at *
          generalize X12.heap.size = g12 at *
          refine hK _ _ ⟨trivial, ⟨((unhide HS10).at 5 rfl).ub.c 0 _ rfl, ((unhide HS10).at 3 rfl).ub.c 1 _ rfl, ((unhide HS10).at 2 rfl).ub.c 0 _ rfl⟩⟩ ?_
          clear hK K
          have u0 := ((unhide HS10).at 1 rfl).ub.c 0 _ rfl
          have u1 := ((unhide HS10).at 1 rfl).ub.f 0 (.slice none 0 0) rfl
          refine wpR_late (i := 12) (o := _) (by kernel_rfl) rfl rfl (by kernel_rfl) (fun K hK => ?_)
          go_simp
          clear u0 u1
          rw [((unhide HS10).at 1 rfl).set1]
          have HS11 := hide (((unhide HS10).rot).set (nz1 _ _ _) #[.slice a9 l9 c9])
          clear HS10
          generalize X13.setRow g11 #[.slice a9 l9 c9] = X14 at *
          refine hK _ _ (⟨((unhide HS11).at 4 rfl).ub.c 0 _ rfl, ((unhide HS11).at 2 rfl).ub.c 1 _ rfl, ((unhide HS11).at 1 rfl).ub.c 0 _ rfl⟩) ?_
          clear hK K
          have u0 := ((unhide HS11).at 5 rfl).ub.c 0 _ rfl
          have u1 := ((unhide HS11).at 5 rfl).ub.f 0 (.slice none 0 0) rfl
          refine wpR_late (i := 13) (o := _) (by kernel_rfl) rfl rfl (by kernel_rfl) (fun K hK => ?_)
          go_simp
          clear u0 u1
          rw [((unhide HS11).at 5 rfl).set1]
          have HS12 := hide (((unhide HS11).rot.rot.rot.rot.rot).set (nz1 _ _ _) #[.slice a10 l10 c10])
          clear HS11
          generalize X14.setRow g12 #[.slice a10 l10 c10] = X15 at *
          refine hK _ _ (⟨((unhide HS12).at 5 rfl).ub.c 0 _ rfl, ((unhide HS12).at 3 rfl).ub.c 1 _ rfl, ((unhide HS12).at 2 rfl).ub.c 0 _ rfl⟩) ?_
          clear hK K
          refine wpR_done (by kernel_rfl) ?_
          go_wp2_with fail
          go_meet
          exact ⟨g11, g12, a9, l9, c9, a10, l10, c10, rfl, rfl, hide (((unhide HS12)).no3)⟩
        · go_simp
          have HS9 := hide ((unhide HS8).new #[.slice none 0 0] 51)
          clear HS8
          generalize X11.alloc (.cells #[.slice none 0 0] 51) = X16 at *
          generalize X11.heap.size = g12 at *
          refine hK _ _ ⟨trivial, ⟨((unhide HS9).at 5 rfl).ub.c 0 _ rfl, ((unhide HS9).at 3 rfl).ub.c 1 _ rfl, ((unhide HS9).at 2 rfl).ub.c 0 _ rfl⟩⟩ ?_
          clear hK K
          refine wpR_op (i := 6) (o := _) (by kernel_rfl) rfl rfl (fun K hK => ?_)
          go_simp
          refine (divModB _ _ (tt * D) (den * N) (k + k) _ ((unhide HS9).bgt 0 rfl) ((unhide HS9).bgt 1 rfl) (unhide HK2).1 (unhide HK2).2.1 (unhide HK2).2.2.1).mono ?_
          rintro e X17 ⟨a9, l9, c9, a10, l10, c10, rfl, hv1, hv2, hb⟩
          rw [unhide HDD] at hv1
          rw [unhide HOV] at hv2
          have HS10 := hide ((((unhide HS9).later hb).push hv1).push hv2)
          clear HS9
          clear hv1 hv2 hb
          refine hK _ _ ⟨trivial, ⟨((unhide HS10).at 5 rfl).ub.c 0 _ rfl, ((unhide HS10).at 3 rfl).ub.c 1 _ rfl, ((unhide HS10).at 2 rfl).ub.c 0 _ rfl⟩⟩ ?_
          clear hK K
          refine wpR_take7 (i := 7) (oi := _) (v := .tuple #[.agg #[.slice a9 l9 c9], .agg #[.slice a10 l10 c10]]) rfl (by kernel_rfl) (by kernel_rfl) (by kernel_rfl) (by kernel_rfl) (fun _ _ _ h => h) (Or.inl ⟨by rfl, ?_⟩) ⟨trivial, ⟨((unhide HS10).at 5 rfl).ub.c 0 _ rfl, ((unhide HS10).at 3 rfl).ub.c 1 _ rfl, ((unhide HS10).at 2 rfl).ub.c 0 _ rfl⟩⟩ ?_
          · intro W' hW
            go_split_ands
            go_simp
          refine wpR_take7 (i := 8) (oi := _) (v := .agg #[.slice a9 l9 c9]) rfl (by kernel_rfl) (by kernel_rfl) (by kernel_rfl) (by kernel_rfl) (fun _ _ _ h => h) (Or.inl ⟨by rfl, ?_⟩) ⟨trivial, ⟨((unhide HS10).at 5 rfl).ub.c 0 _ rfl, ((unhide HS10).at 3 rfl).ub.c 1 _ rfl, ((unhide HS10).at 2 rfl).ub.c 0 _ rfl⟩⟩ ?_
          · intro W' hW
            go_split_ands
            go_simp
          refine wpR_take7 (i := 9) (oi := _) (v := .agg #[.slice a10 l10 c10]) rfl (by kernel_rfl) (by kernel_rfl) (by kernel_rfl) (by kernel_rfl) (fun _ _ _ h => h) (Or.inl ⟨by rfl, ?_⟩) ⟨trivial, ⟨((unhide HS10).at 5 rfl).ub.c 0 _ rfl, ((unhide HS10).at 3 rfl).ub.c 1 _ rfl, ((unhide HS10).at 2 rfl).ub.c 0 _ rfl⟩⟩ ?_
          · intro W' hW
            go_split_ands
            go_simp
          have u0 := ((unhide HS10).at 1 rfl).ub.c 0 _ rfl
          have u1 := ((unhide HS10).at 1 rfl).ub.f 0 (.slice none 0 0) rfl
          refine wpR_late (i := 12) (o := _) (by kernel_rfl) rfl rfl (by kernel_rfl) (fun K hK => ?_)
          go_simp
          clear u0 u1
          rw [((unhide HS10).at 1 rfl).set1]
          have HS11 := hide (((unhide HS10).rot).set (nz1 _ _ _) #[.slice a9 l9 c9])
          clear HS10
          generalize X17.setRow g11 #[.slice a9 l9 c9] = X18 at *
          refine hK _ _ (⟨((unhide HS11).at 4 rfl).ub.c 0 _ rfl, ((unhide HS11).at 2 rfl).ub.c 1 _ rfl, ((unhide HS11).at 1 rfl).ub.c 0 _ rfl⟩) ?_
          clear hK K
          have u0 := ((unhide HS11).at 5 rfl).ub.c 0 _ rfl
          have u1 := ((unhide HS11).at 5 rfl).ub.f 0 (.slice none 0 0) rfl
          refine wpR_late (i := 13) (o := _) (by kernel_rfl) rfl rfl (by kernel_rfl) (fun K hK => ?_)
          go_simp
          clear u0 u1
          rw [((unhide HS11).at 5 rfl).set1]
          have HS12 := hide (((unhide HS11).rot.rot.rot.rot.rot).set (nz1 _ _ _) #[.slice a10 l10 c10])
          clear HS11
          generalize X18.setRow g12 #[.slice a10 l10 c10] = X19 at *
          refine hK _ _ (⟨((unhide HS12).at 5 rfl).ub.c 0 _ rfl, ((unhide HS12).at 3 rfl).ub.c 1 _ rfl, ((unhide HS12).at 2 rfl).ub.c 0 _ rfl⟩) ?_
          clear hK K
          refine wpR_done (by kernel_rfl) ?_
          go_wp2_with fail
          go_meet
          exact ⟨g11, g12, a9, l9, c9, a10, l10, c10, rfl, rfl, hide (((unhide HS12)).no3)⟩
      · go_simp
        have HS8 := hide ((unhide HS7).new #[.slice none 0 0] 51)
        clear HS7
        generalize X1.alloc (.cells #[.slice none 0 0] 51) = X20 at *
        generalize X1.heap.size = g12 at *
        refine hK _ _ ⟨trivial, ⟨((unhide HS8).at 4 rfl).ub.c 0 _ rfl, ((unhide HS8).at 2 rfl).ub.c 1 _ rfl, ((unhide HS8).at 1 rfl).ub.c 0 _ rfl⟩⟩ ?_
        clear hK K
        refine wpR_two (i := 6) (j := 10) (by kernel_rfl) rfl rfl rfl rfl (fun K hK => ?_) (fun K hK => ?_) 
        · go_simp
          refine (divModB _ _ (tt * D) (den * N) (k + k) _ ((unhide HS8).bgt 0 rfl) ((unhide HS8).bgt 1 rfl) (unhide HK2).1 (unhide HK2).2.1 (unhide HK2).2.2.1).mono ?_
          rintro e X21 ⟨a9, l9, c9, a10, l10, c10, rfl, hv1, hv2, hb⟩
          rw [unhide HDD] at hv1
          rw [unhide HOV] at hv2
          have HS9 := hide ((((unhide HS8).later hb).push hv1).push hv2)
          clear HS8
          clear hv1 hv2 hb
          refine hK _ _ ⟨trivial, ⟨((unhide HS9).at 4 rfl).ub.c 0 _ rfl, ((unhide HS9).at 2 rfl).ub.c 1 _ rfl, ((unhide HS9).at 1 rfl).ub.c 0 _ rfl⟩⟩ ?_
          clear hK K
          refine wpR_take7 (i := 7) (oi := _) (v := .tuple #[.agg #[.slice a9 l9 c9], .agg #[.slice a10 l10 c10]]) rfl (by kernel_rfl) (by kernel_rfl) (by kernel_rfl) (by kernel_rfl) (fun _ _ _ h => h) (Or.inl ⟨by rfl, ?_⟩) ⟨trivial, ⟨((unhide HS9).at 4 rfl).ub.c 0 _ rfl, ((unhide HS9).at 2 rfl).ub.c 1 _ rfl, ((unhide HS9).at 1 rfl).ub.c 0 _ rfl⟩⟩ ?_
          · intro W' hW
            go_split_ands
            go_simp
          refine wpR_take7 (i := 8) (oi := _) (v := .agg #[.slice a9 l9 c9]) rfl (by kernel_rfl) (by kernel_rfl) (by kernel_rfl) (by kernel_rfl) (fun _ _ _ h => h) (Or.inl ⟨by rfl, ?_⟩) ⟨trivial, ⟨((unhide HS9).at 4 rfl).ub.c 0 _ rfl, ((unhide HS9).at 2 rfl).ub.c 1 _ rfl, ((unhide HS9).at 1 rfl).ub.c 0 _ rfl⟩⟩ ?_
          · intro W' hW
            go_split_ands
            go_simp
          refine wpR_take7 (i := 9) (oi := _) (v := .agg #[.slice a10 l10 c10]) rfl (by kernel_rfl) (by kernel_rfl) (by kernel_rfl) (by kernel_rfl) (fun _ _ _ h => h) (Or.inl ⟨by rfl, ?_⟩) ⟨trivial, ⟨((unhide HS9).at 4 rfl).ub.c 0 _ rfl, ((unhide HS9).at 2 rfl).ub.c 1 _ rfl, ((unhide HS9).at 1 rfl).ub.c 0 _ rfl⟩⟩ ?_
          · intro W' hW
            go_split_ands
            go_simp
          refine wpR_op (i := 10) (o := _) (by kernel_rfl) rfl rfl (fun K hK => ?_)
          go_simp
          have HS10 := hide ((unhide HS9).new #[.slice none 0 0] 51)
          clear HS9
          generalize X21.alloc (.cells #[.slice none 0 0] 51) = X22 at *
          generalize X21.heap.size = g11 at *
          refine hK _ _ ⟨trivial, ⟨((unhide HS10).at 5 rfl).ub.c 0 _ rfl, ((unhide HS10).at 3 rfl).ub.c 1 _ rfl, ((unhide HS10).at 2 rfl).ub.c 0 _ rfl⟩⟩ ?_
          clear hK K
          have u0 := ((unhide HS10).at 0 rfl).ub.c 0 _ rfl
          have u1 := ((unhide HS10).at 0 rfl).ub.f 0 (.slice none 0 0) rfl
          refine wpR_late (i := 12) (o := _) (by kernel_rfl) rfl rfl (by kernel_rfl) (fun K hK => ?_)
          go_simp
          clear u0 u1
          rw [((unhide HS10).at 0 rfl).set1]
          have HS11 := hide (((unhide HS10)).set (nz1 _ _ _) #[.slice a9 l9 c9])
          clear HS10
          generalize X22.setRow g11 #[.slice a9 l9 c9] = X23 at *
          refine hK _ _ (⟨((unhide HS11).at 5 rfl).ub.c 0 _ rfl, ((unhide HS11).at 3 rfl).ub.c 1 _ rfl, ((unhide HS11).at 2 rfl).ub.c 0 _ rfl⟩) ?_
          clear hK K
          have u0 := ((unhide HS11).at 1 rfl).ub.c 0 _ rfl
          have u1 := ((unhide HS11).at 1 rfl).ub.f 0 (.slice none 0 0) rfl
          refine wpR_late (i := 13) (o := _) (by kernel_rfl) rfl rfl (by kernel_rfl) (fun K hK => ?_)
          go_simp
          clear u0 u1
          rw [((unhide HS11).at 1 rfl).set1]
          have HS12 := hide (((unhide HS11).rot).set (nz1 _ _ _) #[.slice a10 l10 c10])
          clear HS11
          generalize X23.setRow g12 #[.slice a10 l10 c10] = X24 at *
          refine hK _ _ (⟨((unhide HS12).at 4 rfl).ub.c 0 _ rfl, ((unhide HS12).at 2 rfl).ub.c 1 _ rfl, ((unhide HS12).at 1 rfl).ub.c 0 _ rfl⟩) ?_
          clear hK K
          refine wpR_done (by kernel_rfl) ?_
          go_wp2_with fail
          go_meet
          exact ⟨g11, g12, a9, l9, c9, a10, l10, c10, rfl, rfl, hide (((unhide HS12).rot.rot.rot.rot.rot.sw).no3)⟩
        · go_simp
          have HS9 := hide ((unhide HS8).new #[.slice none 0 0] 51)
          clear HS8
          generalize X20.alloc (.cells #[.slice none 0 0] 51) = X25 at *
          generalize X20.heap.size = g11 at *
          refine hK _ _ ⟨trivial, ⟨((unhide HS9).at 5 rfl).ub.c 0 _ rfl, ((unhide HS9).at 3 rfl).ub.c 1 _ rfl, ((unhide HS9).at 2 rfl).ub.c 0 _ rfl⟩⟩ ?_
          clear hK K
          refine wpR_op (i := 6) (o := _) (by kernel_rfl) rfl rfl (fun K hK => ?_)
          go_simp
          refine (divModB _ _ (tt * D) (den * N) (k + k) _ ((unhide HS9).bgt 0 rfl) ((unhide HS9).bgt 1 rfl) (unhide HK2).1 (unhide HK2).2.1 (unhide HK2).2.2.1).mono ?_
          rintro e X26 ⟨a9, l9, c9, a10, l10, c10, rfl, hv1, hv2, hb⟩
          rw [unhide HDD] at hv1
          rw [unhide HOV] at hv2
          have HS10 := hide ((((unhide HS9).later hb).push hv1).push hv2)
          clear HS9
          clear hv1 hv2 hb
          refine hK _ _ ⟨trivial, ⟨((unhide HS10).at 5 rfl).ub.c 0 _ rfl, ((unhide HS10).at 3 rfl).ub.c 1 _ rfl, ((unhide HS10).at 2 rfl).ub.c 0 _ rfl⟩⟩ ?_
          clear hK K
          refine wpR_take7 (i := 7) (oi := _) (v := .tuple #[.agg #[.slice a9 l9 c9], .agg #[.slice a10 l10 c10]]) rfl (by kernel_rfl) (by kernel_rfl) (by kernel_rfl) (by kernel_rfl) (fun _ _ _ h => h) (Or.inl ⟨by rfl, ?_⟩) ⟨trivial, ⟨((unhide HS10).at 5 rfl).ub.c 0 _ rfl, ((unhide HS10).at 3 rfl).ub.c 1 _ rfl, ((unhide HS10).at 2 rfl).ub.c 0 _ rfl⟩⟩ ?_
          · intro W' hW
            go_split_ands
            go_simp
          refine wpR_take7 (i := 8) (oi := _) (v := .agg #[.slice a9 l9 c9]) rfl (by kernel_rfl) (by kernel_rfl) (by kernel_rfl) (by kernel_rfl) (fun _ _ _ h => h) (Or.inl ⟨by rfl, ?_⟩) ⟨trivial, ⟨((unhide HS10).at 5 rfl).ub.c 0 _ rfl, ((unhide HS10).at 3 rfl).ub.c 1 _ rfl, ((unhide HS10).at 2 rfl).ub.c 0 _ rfl⟩⟩ ?_
          · intro W' hW
            go_split_ands
            go_simp
          refine wpR_take7 (i := 9) (oi := _) (v := .agg #[.slice a10 l10 c10]) rfl (by kernel_rfl) (by kernel_rfl) (by kernel_rfl) (by kernel_rfl) (fun _ _ _ h => h) (Or.inl ⟨by rfl, ?_⟩) ⟨trivial, ⟨((unhide HS10).at 5 rfl).ub.c 0 _ rfl, ((unhide HS10).at 3 rfl).ub.c 1 _ rfl, ((unhide HS10).at 2 rfl).ub.c 0 _ rfl⟩⟩ ?_
          · intro W' hW
            go_split_ands
            go_simp
          have u0 := ((unhide HS10).at 0 rfl).ub.c 0 _ rfl
          have u1 := ((unhide HS10).at 0 rfl).ub.f 0 (.slice none 0 0) rfl
          refine wpR_late (i := 12) (o := _) (by kernel_rfl) rfl rfl (by kernel_rfl) (fun K hK => ?_)
          go_simp
          clear u0 u1
          rw [((unhide HS10).at 0 rfl).set1]
          have HS11 := hide (((unhide HS10)).set (nz1 _ _ _) #[.slice a9 l9 c9])
          clear HS10
          generalize X26.setRow g11 #[.slice a9 l9 c9] = X27 at *
          refine hK _ _ (⟨((unhide HS11).at 5 rfl).ub.c 0 _ rfl, ((unhide HS11).at 3 rfl).ub.c 1 _ rfl, ((unhide HS11).at 2 rfl).ub.c 0 _ rfl⟩) ?_
          clear hK K
          have u0 := ((unhide HS11).at 1 rfl).ub.c 0 _ rfl
          have u1 := ((unhide HS11).at 1 rfl).ub.f 0 (.slice none 0 0) rfl
          refine wpR_late (i := 13) (o := _) (by kernel_rfl) rfl rfl (by kernel_rfl) (fun K hK => ?_)
          go_simp
          clear u0 u1
          rw [((unhide HS11).at 1 rfl).set1]
          have HS12 := hide (((unhide HS11).rot).set (nz1 _ _ _) #[.slice a10 l10 c10])
          clear HS11
          generalize X27.setRow g12 #[.slice a10 l10 c10] = X28 at *
          refine hK _ _ (⟨((unhide HS12).at 4 rfl).ub.c 0 _ rfl, ((unhide HS12).at 2 rfl).ub.c 1 _ rfl, ((unhide HS12).at 1 rfl).ub.c 0 _ rfl⟩) ?_
          clear hK K
          refine wpR_done (by kernel_rfl) ?_
          go_wp2_with fail
          go_meet
          exact ⟨g11, g12, a9, l9, c9, a10, l10, c10, rfl, rfl, hide (((unhide HS12).rot.rot.rot.rot.rot.sw).no3)⟩
    · go_simp
      have HS7 := hide ((unhide HS6).new #[.slice none 0 0] 51)
      clear HS6
      generalize X0.alloc (.cells #[.slice none 0 0] 51) = X29 at *
      generalize X0.heap.size = g11 at *
      refine hK _ _ ⟨trivial, ⟨((unhide HS7).at 4 rfl).ub.c 0 _ rfl, ((unhide HS7).at 2 rfl).ub.c 1 _ rfl, ((unhide HS7).at 1 rfl).ub.c 0 _ rfl⟩⟩ ?_
      clear hK K
      refine wpR_two (i := 4) (j := 11) (by kernel_rfl) rfl rfl rfl rfl (fun K hK => ?_) (fun K hK => ?_) 
      · go_simp
        refine (mulB _ _ tt D (tt * D) k _ ((unhide HS7).bgt 6 rfl) ((unhide HS7).bgt 1 rfl) (by have := unhide HK; omega) (unhide HL).1 (unhide HL).2.2.2.2.1 rfl).mono ?_
        rintro e X30 ⟨a8, l8, c8, rfl, hv, hb⟩
        have HS8 := hide (((unhide HS7).later hb).push hv)
        clear HS7
        clear hv hb
        refine hK _ _ ⟨trivial, ⟨((unhide HS8).at 4 rfl).ub.c 0 _ rfl, ((unhide HS8).at 2 rfl).ub.c 1 _ rfl, ((unhide HS8).at 1 rfl).ub.c 0 _ rfl⟩⟩ ?_
        clear hK K
        refine wpR_two (i := 6) (j := 11) (by kernel_rfl) rfl rfl rfl rfl (fun K hK => ?_) (fun K hK => ?_) 
        · go_simp
          refine (divModB _ _ (tt * D) (den * N) (k + k) _ ((unhide HS8).bgt 0 rfl) ((unhide HS8).bgt 1 rfl) (unhide HK2).1 (unhide HK2).2.1 (unhide HK2).2.2.1).mono ?_
          rintro e X31 ⟨a9, l9, c9, a10, l10, c10, rfl, hv1, hv2, hb⟩
          rw [unhide HDD] at hv1
          rw [unhide HOV] at hv2
          have HS9 := hide ((((unhide HS8).later hb).push hv1).push hv2)
          clear HS8
          clear hv1 hv2 hb
          refine hK _ _ ⟨trivial, ⟨((unhide HS9).at 4 rfl).ub.c 0 _ rfl, ((unhide HS9).at 2 rfl).ub.c 1 _ rfl, ((unhide HS9).at 1 rfl).ub.c 0 _ rfl⟩⟩ ?_
          clear hK K
          refine wpR_take7 (i := 7) (oi := _) (v := .tuple #[.agg #[.slice a9 l9 c9], .agg #[.slice a10 l10 c10]]) rfl (by kernel_rfl) (by kernel_rfl) (by kernel_rfl) (by kernel_rfl) (fun _ _ _ h => h) (Or.inl ⟨by rfl, ?_⟩) ⟨trivial, ⟨((unhide HS9).at 4 rfl).ub.c 0 _ rfl, ((unhide HS9).at 2 rfl).ub.c 1 _ rfl, ((unhide HS9).at 1 rfl).ub.c 0 _ rfl⟩⟩ ?_
          · intro W' hW
            go_split_ands
            go_simp
          refine wpR_take7 (i := 8) (oi := _) (v := .agg #[.slice a9 l9 c9]) rfl (by kernel_rfl) (by kernel_rfl) (by kernel_rfl) (by kernel_rfl) (fun _ _ _ h => h) (Or.inl ⟨by rfl, ?_⟩) ⟨trivial, ⟨((unhide HS9).at 4 rfl).ub.c 0 _ rfl, ((unhide HS9).at 2 rfl).ub.c 1 _ rfl, ((unhide HS9).at 1 rfl).ub.c 0 _ rfl⟩⟩ ?_
          · intro W' hW
            go_split_ands
            go_simp
          refine wpR_take7 (i := 9) (oi := _) (v := .agg #[.slice a10 l10 c10]) rfl (by kernel_rfl) (by kernel_rfl) (by kernel_rfl) (by kernel_rfl) (fun _ _ _ h => h) (Or.inl ⟨by rfl, ?_⟩) ⟨trivial, ⟨((unhide HS9).at 4 rfl).ub.c 0 _ rfl, ((unhide HS9).at 2 rfl).ub.c 1 _ rfl, ((unhide HS9).at 1 rfl).ub.c 0 _ rfl⟩⟩ ?_
          · intro W' hW
            go_split_ands
            go_simp
          refine wpR_op (i := 11) (o := _) (by kernel_rfl) rfl rfl (fun K hK => ?_)
          go_simp
          have HS10 := hide ((unhide HS9).new #[.slice none 0 0] 51)
          clear HS9
          generalize X31.alloc (.cells #[.slice none 0 0] 51) = X32 at *
          generalize X31.heap.size = g12 at *
          refine hK _ _ ⟨trivial, ⟨((unhide HS10).at 5 rfl).ub.c 0 _ rfl, ((unhide HS10).at 3 rfl).ub.c 1 _ rfl, ((unhide HS10).at 2 rfl).ub.c 0 _ rfl⟩⟩ ?_
          clear hK K
          have u0 := ((unhide HS10).at 1 rfl).ub.c 0 _ rfl
          have u1 := ((unhide HS10).at 1 rfl).ub.f 0 (.slice none 0 0) rfl
          refine wpR_late (i := 12) (o := _) (by kernel_rfl) rfl rfl (by kernel_rfl) (fun K hK => ?_)
          go_simp
          clear u0 u1
          rw [((unhide HS10).at 1 rfl).set1]
          have HS11 := hide (((unhide HS10).rot).set (nz1 _ _ _) #[.slice a9 l9 c9])
          clear HS10
          generalize X32.setRow g11 #[.slice a9 l9 c9] = X33 at *
          refine hK _ _ (⟨((unhide HS11).at 4 rfl).ub.c 0 _ rfl, ((unhide HS11).at 2 rfl).ub.c 1 _ rfl, ((unhide HS11).at 1 rfl).ub.c 0 _ rfl⟩) ?_
          clear hK K
          have u0 := ((unhide HS11).at 5 rfl).ub.c 0 _ rfl
          have u1 := ((unhide HS11).at 5 rfl).ub.f 0 (.slice none 0 0) rfl
          refine wpR_late (i := 13) (o := _) (by kernel_rfl) rfl rfl (by kernel_rfl) (fun K hK => ?_)
          go_simp
          clear u0 u1
          rw [((unhide HS11).at 5 rfl).set1]
          have HS12 := hide (((unhide HS11).rot.rot.rot.rot.rot).set (nz1 _ _ _) #[.slice a10 l10 c10])
          clear HS11
          generalize X33.setRow g12 #[.slice a10 l10 c10] = X34 at *
          refine hK _ _ (⟨((unhide HS12).at 5 rfl).ub.c 0 _ rfl, ((unhide HS12).at 3 rfl).ub.c 1 _ rfl, ((unhide HS12).at 2 rfl).ub.c 0 _ rfl⟩) ?_
          clear hK K
          refine wpR_done (by kernel_rfl) ?_
          go_wp2_with fail
          go_meet
          exact ⟨g11, g12, a9, l9, c9, a10, l10, c10, rfl, rfl, hide (((unhide HS12)).no3)⟩
        · go_simp
          have HS9 := hide ((unhide HS8).new #[.slice none 0 0] 51)
          clear HS8
          generalize X30.alloc (.cells #[.slice none 0 0] 51) = X35 at *
          generalize X30.heap.size = g12 at *
          refine hK _ _ ⟨trivial, ⟨((unhide HS9).at 5 rfl).ub.c 0 _ rfl, ((unhide HS9).at 3 rfl).ub.c 1 _ rfl, ((unhide HS9).at 2 rfl).ub.c 0 _ rfl⟩⟩ ?_
          clear hK K
          refine wpR_op (i := 6) (o := _) (by kernel_rfl) rfl rfl (fun K hK => ?_)
          go_simp
          refine (divModB _ _ (tt * D) (den * N) (k + k) _ ((unhide HS9).bgt 0 rfl) ((unhide HS9).bgt 1 rfl) (unhide HK2).1 (unhide HK2).2.1 (unhide HK2).2.2.1).mono ?_
          rintro e X36 ⟨a9, l9, c9, a10, l10, c10, rfl, hv1, hv2, hb⟩
          rw [unhide HDD] at hv1
          rw [unhide HOV] at hv2
          have HS10 := hide ((((unhide HS9).later hb).push hv1).push hv2)
          clear HS9
          clear hv1 hv2 hb
          refine hK _ _ ⟨trivial, ⟨((unhide HS10).at 5 rfl).ub.c 0 _ rfl, ((unhide HS10).at 3 rfl).ub.c 1 _ rfl, ((unhide HS10).at 2 rfl).ub.c 0 _ rfl⟩⟩ ?_
          clear hK K
          refine wpR_take7 (i := 7) (oi := _) (v := .tuple #[.agg #[.slice a9 l9 c9], .agg #[.slice a10 l10 c10]]) rfl (by kernel_rfl) (by kernel_rfl) (by kernel_rfl) (by kernel_rfl) (fun _ _ _ h => h) (Or.inl ⟨by rfl, ?_⟩) ⟨trivial, ⟨((unhide HS10).at 5 rfl).ub.c 0 _ rfl, ((unhide HS10).at 3 rfl).ub.c 1 _ rfl, ((unhide HS10).at 2 rfl).ub.c 0 _ rfl⟩⟩ ?_
          · intro W' hW
            go_split_ands
            go_simp
          refine wpR_take7 (i := 8) (oi := _) (v := .agg #[.slice a9 l9 c9]) rfl (by kernel_rfl) (by kernel_rfl) (by kernel_rfl) (by kernel_rfl) (fun _ _ _ h => h) (Or.inl ⟨by rfl, ?_⟩) ⟨trivial, ⟨((unhide HS10).at 5 rfl).ub.c 0 _ rfl, ((unhide HS10).at 3 rfl).ub.c 1 _ rfl, ((unhide HS10).at 2 rfl).ub.c 0 _ rfl⟩⟩ ?_
          · intro W' hW
            go_split_ands
            go_simp
          refine wpR_take7 (i := 9) (oi := _) (v := .agg #[.slice a10 l10 c10]) rfl (by kernel_rfl) (by kernel_rfl) (by kernel_rfl) (by kernel_rfl) (fun _ _ _ h => h) (Or.inl ⟨by rfl, ?_⟩) ⟨trivial, ⟨((unhide HS10).at 5 rfl).ub.c 0 _ rfl, ((unhide HS10).at 3 rfl).ub.c 1 _ rfl, ((unhide HS10).at 2 rfl).ub.c 0 _ rfl⟩⟩ ?_
          · intro W' hW
            go_split_ands
            go_simp
          have u0 := ((unhide HS10).at 1 rfl).ub.c 0 _ rfl
          have u1 := ((unhide HS10).at 1 rfl).ub.f 0 (.slice none 0 0) rfl
          refine wpR_late (i := 12) (o := _) (by kernel_rfl) rfl rfl (by kernel_rfl) (fun K hK => ?_)
          go_simp
          clear u0 u1
          rw [((unhide HS10).at 1 rfl).set1]
          have HS11 := hide (((unhide HS10).rot).set (nz1 _ _ _) #[.slice a9 l9 c9])
          clear HS10
          generalize X36.setRow g11 #[.slice a9 l9 c9] = X37 at *
          refine hK _ _ (⟨((unhide HS11).at 4 rfl).ub.c 0 _ rfl, ((unhide HS11).at 2 rfl).ub.c 1 _ rfl, ((unhide HS11).at 1 rfl).ub.c 0 _ rfl⟩) ?_
          clear hK K
          have u0 := ((unhide HS11).at 5 rfl).ub.c 0 _ rfl
          have u1 := ((unhide HS11).at 5 rfl).ub.f 0 (.slice none 0 0) rfl
          refine wpR_late (i := 13) (o := _) (by kernel_rfl) rfl rfl (by kernel_rfl) (fun K hK => ?_)
          go_simp
          clear u0 u1
          rw [((unhide HS11).at 5 rfl).set1]
          have HS12 := hide (((unhide HS11).rot.rot.rot.rot.rot).set (nz1 _ _ _) #[.slice a10 l10 c10])
          clear HS11
          generalize X37.setRow g12 #[.slice a10 l10 c10] = X38 at *
          refine hK _ _ (⟨((unhide HS12).at 5 rfl).ub.c 0 _ rfl, ((unhide HS12).at 3 rfl).ub.c 1 _ rfl, ((unhide HS12).at 2 rfl).ub.c 0 _ rfl⟩) ?_
          clear hK K
          refine wpR_done (by kernel_rfl) ?_
          go_wp2_with fail
          go_meet
          exact ⟨g11, g12, a9, l9, c9, a10, l10, c10, rfl, rfl, hide (((unhide HS12)).no3)⟩
      · go_simp
        have HS8 := hide ((unhide HS7).new #[.slice none 0 0] 51)
        clear HS7
        generalize X29.alloc (.cells #[.slice none 0 0] 51) = X39 at *
        generalize X29.heap.size = g12 at *
        refine hK _ _ ⟨trivial, ⟨((unhide HS8).at 5 rfl).ub.c 0 _ rfl, ((unhide HS8).at 3 rfl).ub.c 1 _ rfl, ((unhide HS8).at 2 rfl).ub.c 0 _ rfl⟩⟩ ?_
        clear hK K
        refine wpR_op (i := 4) (o := _) (by kernel_rfl) rfl rfl (fun K hK => ?_)
        go_simp
        refine (mulB _ _ tt D (tt * D) k _ ((unhide HS8).bgt 6 rfl) ((unhide HS8).bgt 1 rfl) (by have := unhide HK; omega) (unhide HL).1 (unhide HL).2.2.2.2.1 rfl).mono ?_
        rintro e X40 ⟨a8, l8, c8, rfl, hv, hb⟩
        have HS9 := hide (((unhide HS8).later hb).push hv)
        clear HS8
        clear hv hb
        refine hK _ _ ⟨trivial, ⟨((unhide HS9).at 5 rfl).ub.c 0 _ rfl, ((unhide HS9).at 3 rfl).ub.c 1 _ rfl, ((unhide HS9).at 2 rfl).ub.c 0 _ rfl⟩⟩ ?_
        clear hK K
        refine wpR_op (i := 6) (o := _) (by kernel_rfl) rfl rfl (fun K hK => ?_)
        go_simp
        refine (divModB _ _ (tt * D) (den * N) (k + k) _ ((unhide HS9).bgt 0 rfl) ((unhide HS9).bgt 1 rfl) (unhide HK2).1 (unhide HK2).2.1 (unhide HK2).2.2.1).mono ?_
        rintro e X41 ⟨a9, l9, c9, a10, l10, c10, rfl, hv1, hv2, hb⟩
        rw [unhide HDD] at hv1
        rw [unhide HOV] at hv2
        have HS10 := hide ((((unhide HS9).later hb).push hv1).push hv2)
        clear HS9
        clear hv1 hv2 hb
        refine hK _ _ ⟨trivial, ⟨((unhide HS10).at 5 rfl).ub.c 0 _ rfl, ((unhide HS10).at 3 rfl).ub.c 1 _ rfl, ((unhide HS10).at 2 rfl).ub.c 0 _ rfl⟩⟩ ?_
        clear hK K
        refine wpR_take7 (i := 7) (oi := _) (v := .tuple #[.agg #[.slice a9 l9 c9], .agg #[.slice a10 l10 c10]]) rfl (by kernel_rfl) (by kernel_rfl) (by kernel_rfl) (by kernel_rfl) (fun _ _ _ h => h) (Or.inl ⟨by rfl, ?_⟩) ⟨trivial, ⟨((unhide HS10).at 5 rfl).ub.c 0 _ rfl, ((unhide HS10).at 3 rfl).ub.c 1 _ rfl, ((unhide HS10).at 2 rfl).ub.c 0 _ rfl⟩⟩ ?_
        · intro W' hW
          go_split_ands
          go_simp
        refine wpR_take7 (i := 8) (oi := _) (v := .agg #[.slice a9 l9 c9]) rfl (by kernel_rfl) (by kernel_rfl) (by kernel_rfl) (by kernel_rfl) (fun _ _ _ h => h) (Or.inl ⟨by rfl, ?_⟩) ⟨trivial, ⟨((unhide HS10).at 5 rfl).ub.c 0 _ rfl, ((unhide HS10).at 3 rfl).ub.c 1 _ rfl, ((unhide HS10).at 2 rfl).ub.c 0 _ rfl⟩⟩ ?_
        · intro W' hW
          go_split_ands
          go_simp
        refine wpR_take7 (i := 9) (oi := _) (v := .agg #[.slice a10 l10 c10]) rfl (by kernel_rfl) (by kernel_rfl) (by kernel_rfl) (by kernel_rfl) (fun _ _ _ h => h) (Or.inl ⟨by rfl, ?_⟩) ⟨trivial, ⟨((unhide HS10).at 5 rfl).ub.c 0 _ rfl, ((unhide HS10).at 3 rfl).ub.c 1 _ rfl, ((unhide HS10).at 2 rfl).ub.c 0 _ rfl⟩⟩ ?_
        · intro W' hW
          go_split_ands
          go_simp
        have u0 := ((unhide HS10).at 1 rfl).ub.c 0 _ rfl
        have u1 := ((unhide HS10).at 1 rfl).ub.f 0 (.slice none 0 0) rfl
        refine wpR_late (i := 12) (o := _) (by kernel_rfl) rfl rfl (by kernel_rfl) (fun K hK => ?_)
        go_simp
        clear u0 u1
        rw [((unhide HS10).at 1 rfl).set1]
        have HS11 := hide (((unhide HS10).rot).set (nz1 _ _ _) #[.slice a9 l9 c9])
        clear HS10
        generalize X41.setRow g11 #[.slice a9 l9 c9] = X42 at *
        refine hK _ _ (⟨((unhide HS11).at 4 rfl).ub.c 0 _ rfl, ((unhide HS11).at 2 rfl).ub.c 1 _ rfl, ((unhide HS11).at 1 rfl).ub.c 0 _ rfl⟩) ?_
        clear hK K
        have u0 := ((unhide HS11).at 5 rfl).ub.c 0 _ rfl
        have u1 := ((unhide HS11).at 5 rfl).ub.f 0 (.slice none 0 0) rfl
        refine wpR_late (i := 13) (o := _) (by kernel_rfl) rfl rfl (by kernel_rfl) (fun K hK => ?_)
        go_simp
        clear u0 u1
        rw [((unhide HS11).at 5 rfl).set1]
        have HS12 := hide (((unhide HS11).rot.rot.rot.rot.rot).set (nz1 _ _ _) #[.slice a10 l10 c10])
        clear HS11
        generalize X42.setRow g12 #[.slice a10 l10 c10] = X43 at *
        refine hK _ _ (⟨((unhide HS12).at 5 rfl).ub.c 0 _ rfl, ((unhide HS12).at 3 rfl).ub.c 1 _ rfl, ((unhide HS12).at 2 rfl).ub.c 0 _ rfl⟩) ?_
        clear hK K
        refine wpR_done (by kernel_rfl) ?_
        go_wp2_with fail
        go_meet
        exact ⟨g11, g12, a9, l9, c9, a10, l10, c10, rfl, rfl, hide (((unhide HS12)).no3)⟩
    · go_simp
      have HS7 := hide ((unhide HS6).new #[.slice none 0 0] 51)
      clear HS6
      generalize X0.alloc (.cells #[.slice none 0 0] 51) = X44 at *
      generalize X0.heap.size = g12 at *
      refine hK _ _ ⟨trivial, ⟨((unhide HS7).at 4 rfl).ub.c 0 _ rfl, ((unhide HS7).at 2 rfl).ub.c 1 _ rfl, ((unhide HS7).at 1 rfl).ub.c 0 _ rfl⟩⟩ ?_
      clear hK K
      refine wpR_two (i := 4) (j := 10) (by kernel_rfl) rfl rfl rfl rfl (fun K hK => ?_) (fun K hK => ?_) 
      · go_simp
        refine (mulB _ _ tt D (tt * D) k _ ((unhide HS7).bgt 6 rfl) ((unhide HS7).bgt 1 rfl) (by have := unhide HK; omega) (unhide HL).1 (unhide HL).2.2.2.2.1 rfl).mono ?_
        rintro e X45 ⟨a8, l8, c8, rfl, hv, hb⟩
        have HS8 := hide (((unhide HS7).later hb).push hv)
        clear HS7
        clear hv hb
        refine hK _ _ ⟨trivial, ⟨((unhide HS8).at 4 rfl).ub.c 0 _ rfl, ((unhide HS8).at 2 rfl).ub.c 1 _ rfl, ((unhide HS8).at 1 rfl).ub.c 0 _ rfl⟩⟩ ?_
        clear hK K
        refine wpR_two (i := 6) (j := 10) (by kernel_rfl) rfl rfl rfl rfl (fun K hK => ?_) (fun K hK => ?_) 
        · go_simp
          refine (divModB _ _ (tt * D) (den * N) (k + k) _ ((unhide HS8).bgt 0 rfl) ((unhide HS8).bgt 1 rfl) (unhide HK2).1 (unhide HK2).2.1 (unhide HK2).2.2.1).mono ?_
          rintro e X46 ⟨a9, l9, c9, a10, l10, c10, rfl, hv1, hv2, hb⟩
          rw [unhide HDD] at hv1
          rw [unhide HOV] at hv2
          have HS9 := hide ((((unhide HS8).later hb).push hv1).push hv2)
          clear HS8
          clear hv1 hv2 hb
          refine hK _ _ ⟨trivial, ⟨((unhide HS9).at 4 rfl).ub.c 0 _ rfl, ((unhide HS9).at 2 rfl).ub.c 1 _ rfl, ((unhide HS9).at 1 rfl).ub.c 0 _ rfl⟩⟩ ?_
          clear hK K
          refine wpR_take7 (i := 7) (oi := _) (v := .tuple #[.agg #[.slice a9 l9 c9], .agg #[.slice a10 l10 c10]]) rfl (by kernel_rfl) (by kernel_rfl) (by kernel_rfl) (by kernel_rfl) (fun _ _ _ h => h) (Or.inl ⟨by rfl, ?_⟩) ⟨trivial, ⟨((unhide HS9).at 4 rfl).ub.c 0 _ rfl, ((unhide HS9).at 2 rfl).ub.c 1 _ rfl, ((unhide HS9).at 1 rfl).ub.c 0 _ rfl⟩⟩ ?_
          · intro W' hW
            go_split_ands
            go_simp
          refine wpR_take7 (i := 8) (oi := _) (v := .agg #[.slice a9 l9 c9]) rfl (by kernel_rfl) (by kernel_rfl) (by kernel_rfl) (by kernel_rfl) (fun _ _ _ h => h) (Or.inl ⟨by rfl, ?_⟩) ⟨trivial, ⟨((unhide HS9).at 4 rfl).ub.c 0 _ rfl, ((unhide HS9).at 2 rfl).ub.c 1 _ rfl, ((unhide HS9).at 1 rfl).ub.c 0 _ rfl⟩⟩ ?_
          · intro W' hW
            go_split_ands
            go_simp
          refine wpR_take7 (i := 9) (oi := _) (v := .agg #[.slice a10 l10 c10]) rfl (by kernel_rfl) (by kernel_rfl) (by kernel_rfl) (by kernel_rfl) (fun _ _ _ h => h) (Or.inl ⟨by rfl, ?_⟩) ⟨trivial, ⟨((unhide HS9).at 4 rfl).ub.c 0 _ rfl, ((unhide HS9).at 2 rfl).ub.c 1 _ rfl, ((unhide HS9).at 1 rfl).ub.c 0 _ rfl⟩⟩ ?_
          · intro W' hW
            go_split_ands
            go_simp
          refine wpR_op (i := 10) (o := _) (by kernel_rfl) rfl rfl (fun K hK => ?_)
          go_simp
          have HS10 := hide ((unhide HS9).new #[.slice none 0 0] 51)
          clear HS9
          generalize X46.alloc (.cells #[.slice none 0 0] 51) = X47 at *
          generalize X46.heap.size = g11 at *
          refine hK _ _ ⟨trivial, ⟨((unhide HS10).at 5 rfl).ub.c 0 _ rfl, ((unhide HS10).at 3 rfl).ub.c 1 _ rfl, ((unhide HS10).at 2 rfl).ub.c 0 _ rfl⟩⟩ ?_
          clear hK K
          have u0 := ((unhide HS10).at 0 rfl).ub.c 0 _ rfl
          have u1 := ((unhide HS10).at 0 rfl).ub.f 0 (.slice none 0 0) rfl
          refine wpR_late (i := 12) (o := _) (by kernel_rfl) rfl rfl (by kernel_rfl) (fun K hK => ?_)
          go_simp
          clear u0 u1
          rw [((unhide HS10).at 0 rfl).set1]
          have HS11 := hide (((unhide HS10)).set (nz1 _ _ _) #[.slice a9 l9 c9])
          clear HS10
          generalize X47.setRow g11 #[.slice a9 l9 c9] = X48 at *
          refine hK _ _ (⟨((unhide HS11).at 5 rfl).ub.c 0 _ rfl, ((unhide HS11).at 3 rfl).ub.c 1 _ rfl, ((unhide HS11).at 2 rfl).ub.c 0 _ rfl⟩) ?_
          clear hK K
          have u0 := ((unhide HS11).at 1 rfl).ub.c 0 _ rfl
          have u1 := ((unhide HS11).at 1 rfl).ub.f 0 (.slice none 0 0) rfl
          refine wpR_late (i := 13) (o := _) (by kernel_rfl) rfl rfl (by kernel_rfl) (fun K hK => ?_)
          go_simp
          clear u0 u1
          rw [((unhide HS11).at 1 rfl).set1]
          have HS12 := hide (((unhide HS11).rot).set (nz1 _ _ _) #[.slice a10 l10 c10])
          clear HS11
          generalize X48.setRow g12 #[.slice a10 l10 c10] = X49 at *
          refine hK _ _ (⟨((unhide HS12).at 4 rfl).ub.c 0 _ rfl, ((unhide HS12).at 2 rfl).ub.c 1 _ rfl, ((unhide HS12).at 1 rfl).ub.c 0 _ rfl⟩) ?_
          clear hK K
          refine wpR_done (by kernel_rfl) ?_
          go_wp2_with fail
          go_meet
          exact ⟨g11, g12, a9, l9, c9, a10, l10, c10, rfl, rfl, hide (((unhide HS12).rot.rot.rot.rot.rot.sw).no3)⟩
        · go_simp
          have HS9 := hide ((unhide HS8).new #[.slice none 0 0] 51)
          clear HS8
          generalize X45.alloc (.cells #[.slice none 0 0] 51) = X50 at *
          generalize X45.heap.size = g11 at *
          refine hK _ _ ⟨trivial, ⟨((unhide HS9).at 5 rfl).ub.c 0 _ rfl, ((unhide HS9).at 3 rfl).ub.c 1 _ rfl, ((unhide HS9).at 2 rfl).ub.c 0 _ rfl⟩⟩ ?_
          clear hK K
          refine wpR_op (i := 6) (o := _) (by kernel_rfl) rfl rfl (fun K hK => ?_)
          go_simp
          refine (divModB _ _ (tt * D) (den * N) (k + k) _ ((unhide HS9).bgt 0 rfl) ((unhide HS9).bgt 1 rfl) (unhide HK2).1 (unhide HK2).2.1 (unhide HK2).2.2.1).mono ?_
          rintro e X51 ⟨a9, l9, c9, a10, l10, c10, rfl, hv1, hv2, hb⟩
          rw [unhide HDD] at hv1
          rw [unhide HOV] at hv2
          have HS10 := hide ((((unhide HS9).later hb).push hv1).push hv2)
          clear HS9
          clear hv1 hv2 hb
          refine hK _ _ ⟨trivial, ⟨((unhide HS10).at 5 rfl).ub.c 0 _ rfl, ((unhide HS10).at 3 rfl).ub.c 1 _ rfl, ((unhide HS10).at 2 rfl).ub.c 0 _ rfl⟩⟩ ?_
          clear hK K
          refine wpR_take7 (i := 7) (oi := _) (v := .tuple #[.agg #[.slice a9 l9 c9], .agg #[.slice a10 l10 c10]]) rfl (by kernel_rfl) (by kernel_rfl) (by kernel_rfl) (by kernel_rfl) (fun _ _ _ h => h) (Or.inl ⟨by rfl, ?_⟩) ⟨trivial, ⟨((unhide HS10).at 5 rfl).ub.c 0 _ rfl, ((unhide HS10).at 3 rfl).ub.c 1 _ rfl, ((unhide HS10).at 2 rfl).ub.c 0 _ rfl⟩⟩ ?_
          · intro W' hW
            go_split_ands
            go_simp
          refine wpR_take7 (i := 8) (oi := _) (v := .agg #[.slice a9 l9 c9]) rfl (by kernel_rfl) (by kernel_rfl) (by kernel_rfl) (by kernel_rfl) (fun _ _ _ h => h) (Or.inl ⟨by rfl, ?_⟩) ⟨trivial, ⟨((unhide HS10).at 5 rfl).ub.c 0 _ rfl, ((unhide HS10).at 3 rfl).ub.c 1 _ rfl, ((unhide HS10).at 2 rfl).ub.c 0 _ rfl⟩⟩ ?_
          · intro W' hW
            go_split_ands
            go_simp
          refine wpR_take7 (i := 9) (oi := _) (v := .agg #[.slice a10 l10 c10]) rfl (by kernel_rfl) (by kernel_rfl) (by kernel_rfl) (by kernel_rfl) (fun _ _ _ h => h) (Or.inl ⟨by rfl, ?_⟩) ⟨trivial, ⟨((unhide HS10).at 5 rfl).ub.c 0 _ rfl, ((unhide HS10).at 3 rfl).ub.c 1 _ rfl, ((unhide HS10).at 2 rfl).ub.c 0 _ rfl⟩⟩ ?_
          · intro W' hW
            go_split_ands
            go_simp
          have u0 := ((unhide HS10).at 0 rfl).ub.c 0 _ rfl
          have u1 := ((unhide HS10).at 0 rfl).ub.f 0 (.slice none 0 0) rfl
          refine wpR_late (i := 12) (o := _) (by kernel_rfl) rfl rfl (by kernel_rfl) (fun K hK => ?_)
          go_simp
          clear u0 u1
          rw [((unhide HS10).at 0 rfl).set1]
          have HS11 := hide (((unhide HS10)).set (nz1 _ _ _) #[.slice a9 l9 c9])
          clear HS10
          generalize X51.setRow g11 #[.slice a9 l9 c9] = X52 at *
          refine hK _ _ (⟨((unhide HS11).at 5 rfl).ub.c 0 _ rfl, ((unhide HS11).at 3 rfl).ub.c 1 _ rfl, ((unhide HS11).at 2 rfl).ub.c 0 _ rfl⟩) ?_
          clear hK K
          have u0 := ((unhide HS11).at 1 rfl).ub.c 0 _ rfl
          have u1 := ((unhide HS11).at 1 rfl).ub.f 0 (.slice none 0 0) rfl
          refine wpR_late (i := 13) (o := _) (by kernel_rfl) rfl rfl (by kernel_rfl) (fun K hK => ?_)
          go_simp
          clear u0 u1
          rw [((unhide HS11).at 1 rfl).set1]
          have HS12 := hide (((unhide HS11).rot).set (nz1 _ _ _) #[.slice a10 l10 c10])
          clear HS11
          generalize X52.setRow g12 #[.slice a10 l10 c10] = X53 at *
          refine hK _ _ (⟨((unhide HS12).at 4 rfl).ub.c 0 _ rfl, ((unhide HS12).at 2 rfl).ub.c 1 _ rfl, ((unhide HS12).at 1 rfl).ub.c 0 _ rfl⟩) ?_
          clear hK K
          refine wpR_done (by kernel_rfl) ?_
          go_wp2_with fail
          go_meet
          exact ⟨g11, g12, a9, l9, c9, a10, l10, c10, rfl, rfl, hide (((unhide HS12).rot.rot.rot.rot.rot.sw).no3)⟩
      · go_simp
        have HS8 := hide ((unhide HS7).new #[.slice none 0 0] 51)
        clear HS7
        generalize X44.alloc (.cells #[.slice none 0 0] 51) = X54 at *
        generalize X44.heap.size = g11 at *
        refine hK _ _ ⟨trivial, ⟨((unhide HS8).at 5 rfl).ub.c 0 _ rfl, ((unhide HS8).at 3 rfl).ub.c 1 _ rfl, ((unhide HS8).at 2 rfl).ub.c 0 _ rfl⟩⟩ ?_
        clear hK K
        refine wpR_op (i := 4) (o := _) (by kernel_rfl) rfl rfl (fun K hK => ?_)
        go_simp
        refine (mulB _ _ tt D (tt * D) k _ ((unhide HS8).bgt 6 rfl) ((unhide HS8).bgt 1 rfl) (by have := unhide HK; omega) (unhide HL).1 (unhide HL).2.2.2.2.1 rfl).mono ?_
        rintro e X55 ⟨a8, l8, c8, rfl, hv, hb⟩
        have HS9 := hide (((unhide HS8).later hb).push hv)
        clear HS8
        clear hv hb
        refine hK _ _ ⟨trivial, ⟨((unhide HS9).at 5 rfl).ub.c 0 _ rfl, ((unhide HS9).at 3 rfl).ub.c 1 _ rfl, ((unhide HS9).at 2 rfl).ub.c 0 _ rfl⟩⟩ ?_
        clear hK K
        refine wpR_op (i := 6) (o := _) (by kernel_rfl) rfl rfl (fun K hK => ?_)
        go_simp
        refine (divModB _ _ (tt * D) (den * N) (k + k) _ ((unhide HS9).bgt 0 rfl) ((unhide HS9).bgt 1 rfl) (unhide HK2).1 (unhide HK2).2.1 (unhide HK2).2.2.1).mono ?_
        rintro e X56 ⟨a9, l9, c9, a10, l10, c10, rfl, hv1, hv2, hb⟩
        rw [unhide HDD] at hv1
        rw [unhide HOV] at hv2
        have HS10 := hide ((((unhide HS9).later hb).push hv1).push hv2)
        clear HS9
        clear hv1 hv2 hb
        refine hK _ _ ⟨trivial, ⟨((unhide HS10).at 5 rfl).ub.c 0 _ rfl, ((unhide HS10).at 3 rfl).ub.c 1 _ rfl, ((unhide HS10).at 2 rfl).ub.c 0 _ rfl⟩⟩ ?_
        clear hK K
        refine wpR_take7 (i := 7) (oi := _) (v := .tuple #[.agg #[.slice a9 l9 c9], .agg #[.slice a10 l10 c10]]) rfl (by kernel_rfl) (by kernel_rfl) (by kernel_rfl) (by kernel_rfl) (fun _ _ _ h => h) (Or.inl ⟨by rfl, ?_⟩) ⟨trivial, ⟨((unhide HS10).at 5 rfl).ub.c 0 _ rfl, ((unhide HS10).at 3 rfl).ub.c 1 _ rfl, ((unhide HS10).at 2 rfl).ub.c 0 _ rfl⟩⟩ ?_
        · intro W' hW
          go_split_ands
          go_simp
        refine wpR_take7 (i := 8) (oi := _) (v := .agg #[.slice a9 l9 c9]) rfl (by kernel_rfl) (by kernel_rfl) (by kernel_rfl) (by kernel_rfl) (fun _ _ _ h => h) (Or.inl ⟨by rfl, ?_⟩) ⟨trivial, ⟨((unhide HS10).at 5 rfl).ub.c 0 _ rfl, ((unhide HS10).at 3 rfl).ub.c 1 _ rfl, ((unhide HS10).at 2 rfl).ub.c 0 _ rfl⟩⟩ ?_
        · intro W' hW
          go_split_ands
          go_simp
        refine wpR_take7 (i := 9) (oi := _) (v := .agg #[.slice a10 l10 c10]) rfl (by kernel_rfl) (by kernel_rfl) (by kernel_rfl) (by kernel_rfl) (fun _ _ _ h => h) (Or.inl ⟨by rfl, ?_⟩) ⟨trivial, ⟨((unhide HS10).at 5 rfl).ub.c 0 _ rfl, ((unhide HS10).at 3 rfl).ub.c 1 _ rfl, ((unhide HS10).at 2 rfl).ub.c 0 _ rfl⟩⟩ ?_
        · intro W' hW
          go_split_ands
          go_simp
        have u0 := ((unhide HS10).at 0 rfl).ub.c 0 _ rfl
        have u1 := ((unhide HS10).at 0 rfl).ub.f 0 (.slice none 0 0) rfl
        refine wpR_late (i := 12) (o := _) (by kernel_rfl) rfl rfl (by kernel_rfl) (fun K hK => ?_)
        go_simp
        clear u0 u1
        rw [((unhide HS10).at 0 rfl).set1]
        have HS11 := hide (((unhide HS10)).set (nz1 _ _ _) #[.slice a9 l9 c9])
        clear HS10
        generalize X56.setRow g11 #[.slice a9 l9 c9] = X57 at *
        refine hK _ _ (⟨((unhide HS11).at 5 rfl).ub.c 0 _ rfl, ((unhide HS11).at 3 rfl).ub.c 1 _ rfl, ((unhide HS11).at 2 rfl).ub.c 0 _ rfl⟩) ?_
        clear hK K
        have u0 := ((unhide HS11).at 1 rfl).ub.c 0 _ rfl
        have u1 := ((unhide HS11).at 1 rfl).ub.f 0 (.slice none 0 0) rfl
        refine wpR_late (i := 13) (o := _) (by kernel_rfl) rfl rfl (by kernel_rfl) (fun K hK => ?_)
        go_simp
        clear u0 u1
        rw [((unhide HS11).at 1 rfl).set1]
        have HS12 := hide (((unhide HS11).rot).set (nz1 _ _ _) #[.slice a10 l10 c10])
        clear HS11
        generalize X57.setRow g12 #[.slice a10 l10 c10] = X58 at *
        refine hK _ _ (⟨((unhide HS12).at 4 rfl).ub.c 0 _ rfl, ((unhide HS12).at 2 rfl).ub.c 1 _ rfl, ((unhide HS12).at 1 rfl).ub.c 0 _ rfl⟩) ?_
        clear hK K
        refine wpR_done (by kernel_rfl) ?_
        go_wp2_with fail
        go_meet
        exact ⟨g11, g12, a9, l9, c9, a10, l10, c10, rfl, rfl, hide (((unhide HS12).rot.rot.rot.rot.rot.sw).no3)⟩
  case rest =>
    obtain ⟨g11, g12, a9, l9, c9, a10, l10, c10, rfl, rfl, HS0⟩ := hcut
    generalize wc = Y0 at *
    have u0 := ((unhide HS0).at 2 rfl).ub.c 0 _ rfl
    have u1 := ((unhide HS0).at 0 rfl).ub.c 0 _ rfl
    go_upto_region 6 with (have hchk := HS0; clear hchk; go_at_call 162; go_must (refine (subB _ _ (den * N) ov (k + k) _ ((unhide HS0).bgt 2 rfl) ((unhide HS0).bgt 0 rfl) (by have := unhide HK2; omega) (unhide HK2).2.2.2 (unhide HOD)).mono ?_; rintro e Y1 ⟨a11, l11, c11, rfl, hv, hb⟩; rw [unhide HUN] at hv; have HS1 := hide (((unhide HS0).later hb).push hv); clear HS0; clear hv hb u0 u1))
    have HS2 := hide ((unhide HS1).new #[.slice a11 l11 c11] 51)
    clear HS1
    generalize Y1.alloc (.cells #[.slice a11 l11 c11] 51) = Y2 at *
    generalize Y1.heap.size = g13 at *
    refine region_reads 11 (fun _ => True) (fun W' => W'.cell? ⟨g12, 0, none⟩ = some (.slice a10 l10 c10) ∧ W'.cell? ⟨w.heap.size, 1, none⟩ = some (.slice a2 l2 c2) ∧ W'.cell? ⟨g13, 0, none⟩ = some (.slice a11 l11 c11) ∧ W'.cell? ⟨w.heap.size, 2, none⟩ = some (.slice a3 l3 c3)) 12 rfl (by kernel_rfl) ?_
    have HS3 := hide ((unhide HS2).later ((Below.refl _ _).drew))
    clear HS2
    generalize Y2.drew = Y3 at *
    refine wpR_take7 (i := 0) (oi := _) (v := .func (.func 160) #[] #[.pointer (some ⟨g8, 0, none⟩), .pointer (some ⟨w.heap.size, 0, none⟩)]) rfl (by kernel_rfl) (by kernel_rfl) (by kernel_rfl) (by kernel_rfl) (fun _ _ _ h => h) (Or.inl ⟨by rfl, ?_⟩) ⟨trivial, ⟨((unhide HS3).at 1 rfl).ub.c 0 _ rfl, ((unhide HS3).at 6 rfl).ub.c 1 _ rfl, ((unhide HS3).at 0 rfl).ub.c 0 _ rfl, ((unhide HS3).at 6 rfl).ub.c 2 _ rfl⟩⟩ ?_
    · intro W' hW
      go_split_ands
      go_simp
    refine wpR_take7 (i := 1) (oi := _) (v := .agg #[.slice a10 l10 c10]) rfl (by kernel_rfl) (by kernel_rfl) (by kernel_rfl) (by kernel_rfl) (fun _ _ _ h => h) (Or.inl ⟨by rfl, ?_⟩) ⟨trivial, ⟨((unhide HS3).at 1 rfl).ub.c 0 _ rfl, ((unhide HS3).at 6 rfl).ub.c 1 _ rfl, ((unhide HS3).at 0 rfl).ub.c 0 _ rfl, ((unhide HS3).at 6 rfl).ub.c 2 _ rfl⟩⟩ ?_
    · intro W' hW
      go_split_ands
      go_simp
    refine wpR_take7 (i := 2) (oi := _) (v := .pointer (some ⟨w.heap.size, 1, none⟩)) rfl (by kernel_rfl) (by kernel_rfl) (by kernel_rfl) (by kernel_rfl) (fun _ _ _ h => h) (Or.inl ⟨by rfl, ?_⟩) ⟨trivial, ⟨((unhide HS3).at 1 rfl).ub.c 0 _ rfl, ((unhide HS3).at 6 rfl).ub.c 1 _ rfl, ((unhide HS3).at 0 rfl).ub.c 0 _ rfl, ((unhide HS3).at 6 rfl).ub.c 2 _ rfl⟩⟩ ?_
    · intro W' hW
      go_split_ands
      go_simp
    refine wpR_take7 (i := 3) (oi := _) (v := .agg #[.slice a2 l2 c2]) rfl (by kernel_rfl) (by kernel_rfl) (by kernel_rfl) (by kernel_rfl) (fun _ _ _ h => h) (Or.inl ⟨by rfl, ?_⟩) ⟨trivial, ⟨((unhide HS3).at 1 rfl).ub.c 0 _ rfl, ((unhide HS3).at 6 rfl).ub.c 1 _ rfl, ((unhide HS3).at 0 rfl).ub.c 0 _ rfl, ((unhide HS3).at 6 rfl).ub.c 2 _ rfl⟩⟩ ?_
    · intro W' hW
      go_split_ands
      go_simp
    refine wpR_take7 (i := 5) (oi := _) (v := .func (.func 160) #[] #[.pointer (some ⟨g8, 0, none⟩), .pointer (some ⟨w.heap.size, 0, none⟩)]) rfl (by kernel_rfl) (by kernel_rfl) (by kernel_rfl) (by kernel_rfl) (fun _ _ _ h => h) (Or.inl ⟨by rfl, ?_⟩) ⟨trivial, ⟨((unhide HS3).at 1 rfl).ub.c 0 _ rfl, ((unhide HS3).at 6 rfl).ub.c 1 _ rfl, ((unhide HS3).at 0 rfl).ub.c 0 _ rfl, ((unhide HS3).at 6 rfl).ub.c 2 _ rfl⟩⟩ ?_
    · intro W' hW
      go_split_ands
      go_simp
    refine wpR_take7 (i := 6) (oi := _) (v := .agg #[.slice a11 l11 c11]) rfl (by kernel_rfl) (by kernel_rfl) (by kernel_rfl) (by kernel_rfl) (fun _ _ _ h => h) (Or.inl ⟨by rfl, ?_⟩) ⟨trivial, ⟨((unhide HS3).at 1 rfl).ub.c 0 _ rfl, ((unhide HS3).at 6 rfl).ub.c 1 _ rfl, ((unhide HS3).at 0 rfl).ub.c 0 _ rfl, ((unhide HS3).at 6 rfl).ub.c 2 _ rfl⟩⟩ ?_
    · intro W' hW
      go_split_ands
      go_simp
    refine wpR_take7 (i := 7) (oi := _) (v := .pointer (some ⟨w.heap.size, 2, none⟩)) rfl (by kernel_rfl) (by kernel_rfl) (by kernel_rfl) (by kernel_rfl) (fun _ _ _ h => h) (Or.inl ⟨by rfl, ?_⟩) ⟨trivial, ⟨((unhide HS3).at 1 rfl).ub.c 0 _ rfl, ((unhide HS3).at 6 rfl).ub.c 1 _ rfl, ((unhide HS3).at 0 rfl).ub.c 0 _ rfl, ((unhide HS3).at 6 rfl).ub.c 2 _ rfl⟩⟩ ?_
    · intro W' hW
      go_split_ands
      go_simp
    refine wpR_take7 (i := 8) (oi := _) (v := .agg #[.slice a3 l3 c3]) rfl (by kernel_rfl) (by kernel_rfl) (by kernel_rfl) (by kernel_rfl) (fun _ _ _ h => h) (Or.inl ⟨by rfl, ?_⟩) ⟨trivial, ⟨((unhide HS3).at 1 rfl).ub.c 0 _ rfl, ((unhide HS3).at 6 rfl).ub.c 1 _ rfl, ((unhide HS3).at 0 rfl).ub.c 0 _ rfl, ((unhide HS3).at 6 rfl).ub.c 2 _ rfl⟩⟩ ?_
    · intro W' hW
      go_split_ands
      go_simp
    refine wpR_op (i := 4) (o := _) (by kernel_rfl) rfl rfl (fun K hK => ?_)
    go_simp
    refine (within_any _ _ _ _ _ _ _ _ _ _ _ _ ov bl D k _ _ _ ((unhide HS3).bgt 1 rfl) ((unhide HS3).bgt 8 rfl) ((unhide HS3).bgt 4 rfl) ((unhide HS3).at 4 rfl) (by have := unhide HK; omega) (unhide HL).2.1 (unhide HL).2.2.2.2.1 _ ev ((unhide HS3).at 6 rfl) rfl).mono ?_
    rintro e Y4 ⟨rfl, hb⟩
    rw [unhide HL1]
    have HS4 := hide ((unhide HS3).later hb)
    clear HS3
    clear hb
    refine hK _ _ ⟨trivial, ⟨((unhide HS4).at 1 rfl).ub.c 0 _ rfl, ((unhide HS4).at 6 rfl).ub.c 1 _ rfl, ((unhide HS4).at 0 rfl).ub.c 0 _ rfl, ((unhide HS4).at 6 rfl).ub.c 2 _ rfl⟩⟩ ?_
    clear hK K
    refine wpR_op (i := 9) (o := _) (by kernel_rfl) rfl rfl (fun K hK => ?_)
    go_simp
    refine (within_any _ _ _ _ _ _ _ _ _ _ _ _ un ab D k _ _ _ ((unhide HS4).bgt 0 rfl) ((unhide HS4).bgt 7 rfl) ((unhide HS4).bgt 4 rfl) ((unhide HS4).at 4 rfl) (by have := unhide HK; omega) (unhide HL).2.2.1 (unhide HL).2.2.2.2.1 _ ev ((unhide HS4).at 6 rfl) rfl).mono ?_
    rintro e Y5 ⟨rfl, hb⟩
    rw [unhide HH1]
    have HS5 := hide ((unhide HS4).later hb)
    clear HS4
    clear hb
    refine hK _ _ ⟨trivial, ⟨((unhide HS5).at 1 rfl).ub.c 0 _ rfl, ((unhide HS5).at 6 rfl).ub.c 1 _ rfl, ((unhide HS5).at 0 rfl).ub.c 0 _ rfl, ((unhide HS5).at 6 rfl).ub.c 2 _ rfl⟩⟩ ?_
    clear hK K
    refine wpR_op (i := 10) (o := _) (by kernel_rfl) rfl rfl (fun K hK => ?_)
    go_simp
    refine hK _ _ ⟨trivial, ⟨((unhide HS5).at 1 rfl).ub.c 0 _ rfl, ((unhide HS5).at 6 rfl).ub.c 1 _ rfl, ((unhide HS5).at 0 rfl).ub.c 0 _ rfl, ((unhide HS5).at 6 rfl).ub.c 2 _ rfl⟩⟩ ?_
    clear hK K
    refine wpR_late (i := 11) (o := _) (by kernel_rfl) rfl rfl (by kernel_rfl) (fun K hK => ?_)
    go_simp
    refine hK _ _ (⟨((unhide HS5).at 1 rfl).ub.c 0 _ rfl, ((unhide HS5).at 6 rfl).ub.c 1 _ rfl, ((unhide HS5).at 0 rfl).ub.c 0 _ rfl, ((unhide HS5).at 6 rfl).ub.c 2 _ rfl⟩) ?_
    clear hK K
    refine wpR_done (by kernel_rfl) ?_
    clear HOV HDD HUN HL1 HH1 HOD HT HK2
    have v0 := ((unhide HS5).at 2 rfl).ub.c 0 _ rfl
    have v1 := ((unhide HS5).at 1 rfl).ub.c 0 _ rfl
    have v2 := ((unhide HS5).at 0 rfl).ub.c 0 _ rfl
    have u1 := ((unhide HS5).at 5 rfl).ub.c 0 _ rfl
    have u2 := ((unhide HS5).at 5 rfl).ub.f 0 (.slice none 0 0) rfl
    have HDB := hide ((unhide HS5).bgt 2 rfl)
    have HEND : Hid (∀ (W : World) (a : Option Addr) (l' c' v : Nat), Below Y5.heap.size Y5 W → IsBig W (.agg #[.slice a l' c']) v → (W.setRow (w.heap.size + 1) #[.slice a l' c']).cell? ⟨w.heap.size + 1, 0, none⟩ = some (.slice a l' c') ∧ IsBig (W.setRow (w.heap.size + 1) #[.slice a l' c']) (.agg #[.slice a l' c']) v ∧ Below w.heap.size w (W.setRow (w.heap.size + 1) #[.slice a l' c']) ∧ W.setCell ⟨w.heap.size + 1, 0, none⟩ (.slice a l' c') = W.setRow (w.heap.size + 1) #[.slice a l' c']) := by
      intro W a l' c' v hb hv
      have h1 := (((unhide HS5).later hb).push hv).rot.rot.rot.rot.rot
      have h2 := h1.set (nz1 _ _ _) #[.slice a l' c']
      exact ⟨(h2.at 0 rfl).ub.c 0 _ rfl, h2.bgt 0 rfl, h2.below, (((unhide HS5).later hb).at 5 rfl).set1 _⟩
    have hbe := Below.refl Y5.heap.size Y5
    have HLL := hide (And.intro (unhide HK) (unhide HL))
    clear HK HL
    cases l <;> cases h
    · go_wp2_with fail
      obtain ⟨z1, z2, z3, z4⟩ := unhide HEND Y5 none 0 0 0 hbe (IsBig.zero _)
      rw [z4]
      exact bodyPost_ret (v := .tuple #[.agg #[.slice none 0 0], .bool false]) (by simp [results, Tryz.results110, go_sem, z1]) rfl ⟨_, _, _, rfl, z2, z3⟩
    · have HW5 := hide hbe
      clear v1 v2 hbe
      go_upto_region 13 with fail
      clear v0 u1 u2
      refine region_reads 3 (fun _ => True) (fun W' => W'.cell? ⟨g11, 0, none⟩ = some (.slice a9 l9 c9)) 5 rfl (by kernel_rfl) ?_
      have HT0 := hide ((unhide HS5).later ((Below.refl _ _).drew))
      clear HS5
      generalize Y5.drew = Z0 at *
      refine wpR_take7 (i := 0) (oi := _) (v := .agg #[.slice a9 l9 c9]) rfl (by kernel_rfl) (by kernel_rfl) (by kernel_rfl) (by kernel_rfl) (fun _ _ _ h => h) (Or.inl ⟨by rfl, ?_⟩) ⟨trivial, ((unhide HT0).at 2 rfl).ub.c 0 _ rfl⟩ ?_
      · intro W' hW
        go_simp
      refine wpR_op (i := 1) (o := _) (by kernel_rfl) rfl rfl (fun K hK => ?_)
      go_simp
      refine (bigOf_any 1 _ (by decide)).mono ?_
      rintro e Z1 ⟨a12, l12, c12, rfl, hv, hb⟩
      have HT1 := hide (((unhide HT0).later hb).push hv)
      clear HT0
      clear hv hb
      refine hK _ _ ⟨trivial, ((unhide HT1).at 2 rfl).ub.c 0 _ rfl⟩ ?_
      clear hK K
      refine wpR_op (i := 2) (o := _) (by kernel_rfl) rfl rfl (fun K hK => ?_)
      go_simp
      refine (addD _ _ dd _ _ ((unhide HT1).bgt 3 rfl) ((unhide HT1).bgt 0 rfl) (unhide HDL)).mono ?_
      rintro e Z2 ⟨a13, l13, c13, rfl, hv, hb⟩
      have HT2 := hide (((unhide HT1).later hb).push hv)
      clear HT1
      clear hv hb
      refine hK _ _ ⟨trivial, ((unhide HT2).at 2 rfl).ub.c 0 _ rfl⟩ ?_
      clear hK K
      have u0 := ((unhide HT2).at 5 rfl).ub.c 0 _ rfl
      have u1 := ((unhide HT2).at 5 rfl).ub.f 0 (.slice none 0 0) rfl
      refine wpR_late (i := 3) (o := _) (by kernel_rfl) rfl rfl (by kernel_rfl) (fun K hK => ?_)
      go_simp
      clear u0 u1
      rw [((unhide HT2).at 5 rfl).set1]
      have HT3 := hide (((unhide HT2).rot.rot.rot.rot.rot).set (nz1 _ _ _) #[.slice a13 l13 c13])
      clear HT2
      generalize Z2.setRow (w.heap.size + 1) #[.slice a13 l13 c13] = Z3 at *
      refine hK _ _ (((unhide HT3).at 4 rfl).ub.c 0 _ rfl) ?_
      clear hK K
      refine wpR_late (i := 4) (o := _) (by kernel_rfl) rfl rfl (by kernel_rfl) (fun K hK => ?_)
      go_simp
      refine hK _ _ (((unhide HT3).at 4 rfl).ub.c 0 _ rfl) ?_
      clear hK K
      refine wpR_done (by kernel_rfl) ?_
      go_wp2_with fail
      have z1 := ((unhide HT3).at 0 rfl).ub.c 0 _ rfl
      exact bodyPost_ret (v := .tuple #[.agg #[.slice a13 l13 c13], .bool true]) (by simp [results, Tryz.results110, go_sem, z1]) rfl ⟨_, _, _, by rfl, by exact ((unhide HT3).bgt 0 rfl), (unhide HT3).below⟩
    · go_wp2_with fail
      obtain ⟨z1, z2, z3, z4⟩ := unhide HEND Y5 a9 l9 c9 dd hbe (unhide HDB)
      rw [z4]
      exact bodyPost_ret (v := .tuple #[.agg #[.slice a9 l9 c9], .bool true]) (by simp [results, Tryz.results110, go_sem, z1]) rfl ⟨_, _, _, rfl, z2, z3⟩
    · clear hbe
      rcases Nat.lt_trichotomy ov un with hlt | hlt | hlt
      · have hcc : Cub.cmpN ov un = -1 := cmpN_lt' hlt
        have HD : Hid (decO true true ov un dd = some dd) := (by unfold decO; simp [hlt] : decO true true ov un dd = some dd)
        clear hlt
        go_wp2_with (have hchk := HS5; clear hchk; go_at_call 124; go_must (refine (cmp_any _ _ ov un _ ((unhide HS5).bgt 1 rfl) ((unhide HS5).bgt 0 rfl)).mono ?_; rintro e Y8 ⟨rfl, hb1⟩; rw [hcc]; have HW8 := hide hb1; have HS8 := hide ((unhide HS5).later hb1); clear hb1 HS5 v0 v1 v2 u1 u2; have v0 := ((unhide HS8).at 2 rfl).ub.c 0 _ rfl; have u1 := ((unhide HS8).at 5 rfl).ub.c 0 _ rfl; have u2 := ((unhide HS8).at 5 rfl).ub.f 0 (.slice none 0 0) rfl))
        obtain ⟨z1, z2, z3, z4⟩ := unhide HEND Y8 a9 l9 c9 dd (unhide HW8) ((unhide HDB).later (unhide HW8))
        rw [z4]
        exact bodyPost_ret (v := .tuple #[.agg #[.slice a9 l9 c9], .bool true]) (by simp [results, Tryz.results110, go_sem, z1]) rfl ⟨_, _, _, by rw [unhide HD]; rfl, by rw [unhide HD]; exact z2, z3⟩
      · have hcc : Cub.cmpN ov un = 0 := by rw [hlt]; exact cmpN_eq' _
        rcases Nat.mod_two_eq_zero_or_one dd with hdm | hdm
        · have HD : Hid (decO true true ov un dd = some dd) := (by unfold decO; simp [hlt, hdm] : decO true true ov un dd = some dd)
          have hod : (dd % 2 == 1) = false := by rw [hdm]; rfl
          clear hlt hdm
          go_wp2_with (first
            | (have hchk := HS5; clear hchk; go_at_call 124; go_must (refine (cmp_any _ _ ov un _ ((unhide HS5).bgt 1 rfl) ((unhide HS5).bgt 0 rfl)).mono ?_; rintro e Y8 ⟨rfl, hb1⟩; rw [hcc]; have HW8 := hide hb1; have HS8 := hide ((unhide HS5).later hb1); clear hb1 HS5 v0 v1 v2 u1 u2; have v0 := ((unhide HS8).at 2 rfl).ub.c 0 _ rfl; have u1 := ((unhide HS8).at 5 rfl).ub.c 0 _ rfl; have u2 := ((unhide HS8).at 5 rfl).ub.f 0 (.slice none 0 0) rfl))
            | (have hchk := HS8; clear hchk; go_at_call 163; go_must (refine (isOdd_any _ dd _ ((unhide HS8).bgt 2 rfl)).mono ?_; rintro e Y9 ⟨rfl, hb1⟩; rw [hod]; have HS9 := hide ((unhide HS8).later hb1); have HW9 : Hid (Below Y5.heap.size Y5 Y9) := (unhide HW8).trans (hb1.mono (unhide HW8).size); clear hb1 HS8 v0 u1 u2; have v0 := ((unhide HS9).at 2 rfl).ub.c 0 _ rfl; have u1 := ((unhide HS9).at 5 rfl).ub.c 0 _ rfl; have u2 := ((unhide HS9).at 5 rfl).ub.f 0 (.slice none 0 0) rfl)))
          obtain ⟨z1, z2, z3, z4⟩ := unhide HEND Y9 a9 l9 c9 dd (unhide HW9) ((unhide HDB).later (unhide HW9))
          rw [z4]
          exact bodyPost_ret (v := .tuple #[.agg #[.slice a9 l9 c9], .bool true]) (by simp [results, Tryz.results110, go_sem, z1]) rfl ⟨_, _, _, by rw [unhide HD]; rfl, by rw [unhide HD]; exact z2, z3⟩
        · have HD : Hid (decO true true ov un dd = some (dd + 1)) := (by unfold decO; simp [hlt, hdm] : decO true true ov un dd = some (dd + 1))
          have hod : (dd % 2 == 1) = true := by rw [hdm]; rfl
          clear hlt hdm
          go_upto_region 13 with (first
            | (have hchk := HS5; clear hchk; go_at_call 124; go_must (refine (cmp_any _ _ ov un _ ((unhide HS5).bgt 1 rfl) ((unhide HS5).bgt 0 rfl)).mono ?_; rintro e Y8 ⟨rfl, hb1⟩; rw [hcc]; have HW8 := hide hb1; have HS8 := hide ((unhide HS5).later hb1); clear hb1 HS5 v0 v1 v2 u1 u2; have v0 := ((unhide HS8).at 2 rfl).ub.c 0 _ rfl; have u1 := ((unhide HS8).at 5 rfl).ub.c 0 _ rfl; have u2 := ((unhide HS8).at 5 rfl).ub.f 0 (.slice none 0 0) rfl))
            | (have hchk := HS8; clear hchk; go_at_call 163; go_must (refine (isOdd_any _ dd _ ((unhide HS8).bgt 2 rfl)).mono ?_; rintro e Y9 ⟨rfl, hb1⟩; rw [hod]; have HS9 := hide ((unhide HS8).later hb1); have HW9 : Hid (Below Y5.heap.size Y5 Y9) := (unhide HW8).trans (hb1.mono (unhide HW8).size); clear hb1 HS8 v0 u1 u2; have v0 := ((unhide HS9).at 2 rfl).ub.c 0 _ rfl; have u1 := ((unhide HS9).at 5 rfl).ub.c 0 _ rfl; have u2 := ((unhide HS9).at 5 rfl).ub.f 0 (.slice none 0 0) rfl)))
          clear v0 u1 u2
          refine region_reads 3 (fun _ => True) (fun W' => W'.cell? ⟨g11, 0, none⟩ = some (.slice a9 l9 c9)) 5 rfl (by kernel_rfl) ?_
          have HT0 := hide ((unhide HS9).later ((Below.refl _ _).drew))
          clear HS9
          generalize Y9.drew = Z0 at *
          refine wpR_take7 (i := 0) (oi := _) (v := .agg #[.slice a9 l9 c9]) rfl (by kernel_rfl) (by kernel_rfl) (by kernel_rfl) (by kernel_rfl) (fun _ _ _ h => h) (Or.inl ⟨by rfl, ?_⟩) ⟨trivial, ((unhide HT0).at 2 rfl).ub.c 0 _ rfl⟩ ?_
          · intro W' hW
            go_simp
          refine wpR_op (i := 1) (o := _) (by kernel_rfl) rfl rfl (fun K hK => ?_)
          go_simp
          refine (bigOf_any 1 _ (by decide)).mono ?_
          rintro e Z1 ⟨a12, l12, c12, rfl, hv, hb⟩
          have HT1 := hide (((unhide HT0).later hb).push hv)
          clear HT0
          clear hv hb
          refine hK _ _ ⟨trivial, ((unhide HT1).at 2 rfl).ub.c 0 _ rfl⟩ ?_
          clear hK K
          refine wpR_op (i := 2) (o := _) (by kernel_rfl) rfl rfl (fun K hK => ?_)
          go_simp
          refine (addD _ _ dd _ _ ((unhide HT1).bgt 3 rfl) ((unhide HT1).bgt 0 rfl) (unhide HDL)).mono ?_
          rintro e Z2 ⟨a13, l13, c13, rfl, hv, hb⟩
          have HT2 := hide (((unhide HT1).later hb).push hv)
          clear HT1
          clear hv hb
          refine hK _ _ ⟨trivial, ((unhide HT2).at 2 rfl).ub.c 0 _ rfl⟩ ?_
          clear hK K
          have u0 := ((unhide HT2).at 5 rfl).ub.c 0 _ rfl
          have u1 := ((unhide HT2).at 5 rfl).ub.f 0 (.slice none 0 0) rfl
          refine wpR_late (i := 3) (o := _) (by kernel_rfl) rfl rfl (by kernel_rfl) (fun K hK => ?_)
          go_simp
          clear u0 u1
          rw [((unhide HT2).at 5 rfl).set1]
          have HT3 := hide (((unhide HT2).rot.rot.rot.rot.rot).set (nz1 _ _ _) #[.slice a13 l13 c13])
          clear HT2
          generalize Z2.setRow (w.heap.size + 1) #[.slice a13 l13 c13] = Z3 at *
          refine hK _ _ (((unhide HT3).at 4 rfl).ub.c 0 _ rfl) ?_
          clear hK K
          refine wpR_late (i := 4) (o := _) (by kernel_rfl) rfl rfl (by kernel_rfl) (fun K hK => ?_)
          go_simp
          refine hK _ _ (((unhide HT3).at 4 rfl).ub.c 0 _ rfl) ?_
          clear hK K
          refine wpR_done (by kernel_rfl) ?_
          go_wp2_with fail
          have z1 := ((unhide HT3).at 0 rfl).ub.c 0 _ rfl
          exact bodyPost_ret (v := .tuple #[.agg #[.slice a13 l13 c13], .bool true]) (by simp [results, Tryz.results110, go_sem, z1]) rfl ⟨_, _, _, by rw [unhide HD]; rfl, by rw [unhide HD]; exact ((unhide HT3).bgt 0 rfl), (unhide HT3).below⟩
      · have hcc : Cub.cmpN ov un = 1 := cmpN_gt' hlt
        have HD : Hid (decO true true ov un dd = some (dd + 1)) := (by unfold decO; rw [if_pos (by rfl), if_neg (by omega)] : decO true true ov un dd = some (dd + 1))
        clear hlt
        go_upto_region 13 with (first
          | (have hchk := HS5; clear hchk; go_at_call 124; go_must (refine (cmp_any _ _ ov un _ ((unhide HS5).bgt 1 rfl) ((unhide HS5).bgt 0 rfl)).mono ?_; rintro e Y8 ⟨rfl, hb1⟩; rw [hcc]; have HW8 := hide hb1; have HS8 := hide ((unhide HS5).later hb1); clear hb1 HS5 v0 v1 v2 u1 u2; have v0 := ((unhide HS8).at 2 rfl).ub.c 0 _ rfl; have u1 := ((unhide HS8).at 5 rfl).ub.c 0 _ rfl; have u2 := ((unhide HS8).at 5 rfl).ub.f 0 (.slice none 0 0) rfl)))
        clear v0 u1 u2
        refine region_reads 3 (fun _ => True) (fun W' => W'.cell? ⟨g11, 0, none⟩ = some (.slice a9 l9 c9)) 5 rfl (by kernel_rfl) ?_
        have HT0 := hide ((unhide HS8).later ((Below.refl _ _).drew))
        clear HS8
        generalize Y8.drew = Z0 at *
        refine wpR_take7 (i := 0) (oi := _) (v := .agg #[.slice a9 l9 c9]) rfl (by kernel_rfl) (by kernel_rfl) (by kernel_rfl) (by kernel_rfl) (fun _ _ _ h => h) (Or.inl ⟨by rfl, ?_⟩) ⟨trivial, ((unhide HT0).at 2 rfl).ub.c 0 _ rfl⟩ ?_
        · intro W' hW
          go_simp
        refine wpR_op (i := 1) (o := _) (by kernel_rfl) rfl rfl (fun K hK => ?_)
        go_simp
        refine (bigOf_any 1 _ (by decide)).mono ?_
        rintro e Z1 ⟨a12, l12, c12, rfl, hv, hb⟩
        have HT1 := hide (((unhide HT0).later hb).push hv)
        clear HT0
        clear hv hb
        refine hK _ _ ⟨trivial, ((unhide HT1).at 2 rfl).ub.c 0 _ rfl⟩ ?_
        clear hK K
        refine wpR_op (i := 2) (o := _) (by kernel_rfl) rfl rfl (fun K hK => ?_)
        go_simp
        refine (addD _ _ dd _ _ ((unhide HT1).bgt 3 rfl) ((unhide HT1).bgt 0 rfl) (unhide HDL)).mono ?_
        rintro e Z2 ⟨a13, l13, c13, rfl, hv, hb⟩
        have HT2 := hide (((unhide HT1).later hb).push hv)
        clear HT1
        clear hv hb
        refine hK _ _ ⟨trivial, ((unhide HT2).at 2 rfl).ub.c 0 _ rfl⟩ ?_
        clear hK K
        have u0 := ((unhide HT2).at 5 rfl).ub.c 0 _ rfl
        have u1 := ((unhide HT2).at 5 rfl).ub.f 0 (.slice none 0 0) rfl
        refine wpR_late (i := 3) (o := _) (by kernel_rfl) rfl rfl (by kernel_rfl) (fun K hK => ?_)
        go_simp
        clear u0 u1
        rw [((unhide HT2).at 5 rfl).set1]
        have HT3 := hide (((unhide HT2).rot.rot.rot.rot.rot).set (nz1 _ _ _) #[.slice a13 l13 c13])
        clear HT2
        generalize Z2.setRow (w.heap.size + 1) #[.slice a13 l13 c13] = Z3 at *
        refine hK _ _ (((unhide HT3).at 4 rfl).ub.c 0 _ rfl) ?_
        clear hK K
        refine wpR_late (i := 4) (o := _) (by kernel_rfl) rfl rfl (by kernel_rfl) (fun K hK => ?_)
        go_simp
        refine hK _ _ (((unhide HT3).at 4 rfl).ub.c 0 _ rfl) ?_
        clear hK K
        refine wpR_done (by kernel_rfl) ?_
        go_wp2_with fail
        have z1 := ((unhide HT3).at 0 rfl).ub.c 0 _ rfl
        exact bodyPost_ret (v := .tuple #[.agg #[.slice a13 l13 c13], .bool true]) (by simp [results, Tryz.results110, go_sem, z1]) rfl ⟨_, _, _, by rw [unhide HD]; rfl, by rw [unhide HD]; exact ((unhide HT3).bgt 0 rfl), (unhide HT3).below⟩
end Go.Proofs.YtijifpbpjinmhaaGreatDoor

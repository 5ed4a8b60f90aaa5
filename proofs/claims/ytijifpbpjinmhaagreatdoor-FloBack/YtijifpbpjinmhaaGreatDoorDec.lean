/- flo: decimal (51) and its closure (128). -/
import Derived.Test.YtijifpbpjinmhaaGreatDoorRoom
import Derived.Test.YtijifpbpjinmhaaGreatDoorQ
set_option maxHeartbeats 4000000
set_option maxRecDepth 100000
namespace Go.Proofs.YtijifpbpjinmhaaGreatDoor
open Go.RowKit
theorem cmpN_lt' {m n : Nat} (h : m < n) : Cub.cmpN m n = -1 := if_pos h
theorem cmpN_gt' {m n : Nat} (h : n < m) : Cub.cmpN m n = 1 := by unfold Cub.cmpN; rw [if_neg (by omega), if_pos h]
theorem cmpN_eq' (m : Nat) : Cub.cmpN m m = 0 := by unfold Cub.cmpN; rw [if_neg (by omega), if_neg (by omega)]
theorem divModB (x y : Value) (m n k : Nat) (w : World) (hx : IsBig w x m) (hy : IsBig w y n) (hk : k ≤ 500000) (hm : m < 1000000000 ^ k) (hn : 0 < n) :
    Calls Tryz.prog 161 #[x, y] w fun e w' => ∃ a1 n1 c1 a2 n2 c2, e = .returned (.tuple #[.agg #[.slice a1 n1 c1], .agg #[.slice a2 n2 c2]]) ∧ IsBig w' (.agg #[.slice a1 n1 c1]) (m / n) ∧ IsBig w' (.agg #[.slice a2 n2 c2]) (m % n) ∧ Below w.heap.size w w' :=
  divMod_core x y m n k w hx hy (by omega) hm hn (fun h1 h2 => long_any m n k hk hm h1 h2)
theorem within_yes (a5 : Option Addr) (l5 c5 : Nat) (a6 : Option Addr) (l6 c6 : Nat) (a7 : Option Addr) (l7 c7 : Nat) (a8 : Option Addr) (l8 c8 : Nat) (m n D k gs : Nat) (gr : Nat) (w : World) (hm : IsBig w (.agg #[.slice a7 l7 c7]) m) (hn : IsBig w (.agg #[.slice a8 l8 c8]) n) (hd : IsBig w (.agg #[.slice a6 l6 c6]) D) (hs : OwnU w gs 54 #[.slice a5 l5 c5, .slice a6 l6 c6]) (hk : k ≤ 1000000) (hnl : n < 1000000000 ^ k) (hdl : D < 1000000000 ^ k) (hh : m < n * D) :
    Calls Tryz.prog 160 #[.agg #[.slice a7 l7 c7], .agg #[.slice a8 l8 c8], .pointer (some ⟨gs, 0, none⟩), .pointer (some ⟨gr, 0, none⟩)] w fun e w' => e = .returned (.bool true) ∧ Below w.heap.size w w' := by
  have hfs : ∀ W, Below w.heap.size w W → OwnU W gs 54 #[.slice a5 l5 c5, .slice a6 l6 c6] := fun W hb => hs.later hb
  obtain ⟨V, hV⟩ : ∃ V, V = ((w.alloc (.cells #[.slice a7 l7 c7] 51)).alloc (.cells #[.slice a8 l8 c8] 51)) := ⟨_, rfl⟩
  have HS0 : Hid (St w [((w.heap.size + 1), 51, #[.slice a8 l8 c8]), (w.heap.size, 51, #[.slice a7 l7 c7])] [(.agg #[.slice a6 l6 c6], D), (.agg #[.slice a8 l8 c8], n), (.agg #[.slice a7 l7 c7], m)] V) := by rw [hV]; have h := ((((((St.nil (Below.refl _ w)).push hm).push hn).push hd).new #[.slice a7 l7 c7] 51).new #[.slice a8 l8 c8] 51); (try simp only [World.size_alloc] at h); exact h
  have HV := hide hV
  have HFS := hide hfs
  have HK := hide hk
  have HNL := hide hnl
  have HDL := hide hdl
  have HH := hide hh
  clear hV hm hn hd hs hfs hk hnl hdl hh
  go_enter Tryz.func160, Tryz.ntmps160
  go_upto_region 1 with fail
  rw [← unhide HV]
  clear HV
  refine region_reads 6 (fun _ => True) (fun W' => W'.cell? ⟨w.heap.size, 0, none⟩ = some (.slice a7 l7 c7) ∧ W'.cell? ⟨(w.heap.size + 1), 0, none⟩ = some (.slice a8 l8 c8) ∧ W'.cell? ⟨gs, 1, none⟩ = some (.slice a6 l6 c6)) 7 rfl (by kernel_rfl) ?_
  have HS1 := hide ((unhide HS0).later ((Below.refl _ _).drew))
  clear HS0
  generalize V.drew = U0 at *
  refine wpR_take7 (i := 0) (oi := _) (v := .agg #[.slice a7 l7 c7]) rfl (by kernel_rfl) (by kernel_rfl) (by kernel_rfl) (by kernel_rfl) (fun _ _ _ h => h) (Or.inl ⟨by rfl, ?_⟩) ⟨trivial, ⟨((unhide HS1).at 1 rfl).ub.c 0 _ rfl, ((unhide HS1).at 0 rfl).ub.c 0 _ rfl, (unhide HFS _ (unhide HS1).below).ub.c 1 _ rfl⟩⟩ ?_
  · intro W' hW
    go_split_ands
    go_simp
  refine wpR_take7 (i := 1) (oi := _) (v := .agg #[.slice a8 l8 c8]) rfl (by kernel_rfl) (by kernel_rfl) (by kernel_rfl) (by kernel_rfl) (fun _ _ _ h => h) (Or.inl ⟨by rfl, ?_⟩) ⟨trivial, ⟨((unhide HS1).at 1 rfl).ub.c 0 _ rfl, ((unhide HS1).at 0 rfl).ub.c 0 _ rfl, (unhide HFS _ (unhide HS1).below).ub.c 1 _ rfl⟩⟩ ?_
  · intro W' hW
    go_split_ands
    go_simp
  refine wpR_take7 (i := 2) (oi := _) (v := .pointer (some ⟨gs, 1, none⟩)) rfl (by kernel_rfl) (by kernel_rfl) (by kernel_rfl) (by kernel_rfl) (fun _ _ _ h => h) (Or.inl ⟨by rfl, ?_⟩) ⟨trivial, ⟨((unhide HS1).at 1 rfl).ub.c 0 _ rfl, ((unhide HS1).at 0 rfl).ub.c 0 _ rfl, (unhide HFS _ (unhide HS1).below).ub.c 1 _ rfl⟩⟩ ?_
  · intro W' hW
    go_split_ands
    go_simp
  refine wpR_take7 (i := 3) (oi := _) (v := .agg #[.slice a6 l6 c6]) rfl (by kernel_rfl) (by kernel_rfl) (by kernel_rfl) (by kernel_rfl) (fun _ _ _ h => h) (Or.inl ⟨by rfl, ?_⟩) ⟨trivial, ⟨((unhide HS1).at 1 rfl).ub.c 0 _ rfl, ((unhide HS1).at 0 rfl).ub.c 0 _ rfl, (unhide HFS _ (unhide HS1).below).ub.c 1 _ rfl⟩⟩ ?_
  · intro W' hW
    go_split_ands
    go_simp
  refine wpR_op (i := 4) (o := _) (by kernel_rfl) rfl rfl (fun K hK => ?_)
  go_simp
  refine (mulB _ _ n D (n * D) k _ ((unhide HS1).bgt 1 rfl) ((unhide HS1).bgt 0 rfl) (unhide HK) (unhide HNL) (unhide HDL) rfl).mono ?_
  rintro e U1 ⟨a9, l9, c9, rfl, hv, hb⟩
  have HS2 := hide (((unhide HS1).later hb).push hv)
  clear HS1
  clear hv hb
  refine hK _ _ ⟨trivial, ⟨((unhide HS2).at 1 rfl).ub.c 0 _ rfl, ((unhide HS2).at 0 rfl).ub.c 0 _ rfl, (unhide HFS _ (unhide HS2).below).ub.c 1 _ rfl⟩⟩ ?_
  clear hK K
  refine wpR_op (i := 5) (o := _) (by kernel_rfl) rfl rfl (fun K hK => ?_)
  go_simp
  refine (cmp_any _ _ m (n * D) _ ((unhide HS2).bgt 3 rfl) ((unhide HS2).bgt 0 rfl)).mono ?_
  rintro e U2 ⟨rfl, hb⟩
  have HS3 := hide ((unhide HS2).later hb)
  clear HS2
  clear hb
  refine hK _ _ ⟨trivial, ⟨((unhide HS3).at 1 rfl).ub.c 0 _ rfl, ((unhide HS3).at 0 rfl).ub.c 0 _ rfl, (unhide HFS _ (unhide HS3).below).ub.c 1 _ rfl⟩⟩ ?_
  clear hK K
  rw [cmpN_lt' (unhide HH)]
  refine wpR_late (i := 6) (o := _) (by kernel_rfl) rfl rfl (by kernel_rfl) (fun K hK => ?_)
  go_simp
  refine hK _ _ (⟨((unhide HS3).at 1 rfl).ub.c 0 _ rfl, ((unhide HS3).at 0 rfl).ub.c 0 _ rfl, (unhide HFS _ (unhide HS3).below).ub.c 1 _ rfl⟩) ?_
  clear hK K
  refine wpR_done (by kernel_rfl) ?_
  go_wp2_with fail
  go_ret
  exact ⟨by simp, (unhide HS3).below⟩
theorem within_no (a5 : Option Addr) (l5 c5 : Nat) (a6 : Option Addr) (l6 c6 : Nat) (a7 : Option Addr) (l7 c7 : Nat) (a8 : Option Addr) (l8 c8 : Nat) (m n D k gs : Nat) (gr : Nat) (w : World) (hm : IsBig w (.agg #[.slice a7 l7 c7]) m) (hn : IsBig w (.agg #[.slice a8 l8 c8]) n) (hd : IsBig w (.agg #[.slice a6 l6 c6]) D) (hs : OwnU w gs 54 #[.slice a5 l5 c5, .slice a6 l6 c6]) (hk : k ≤ 1000000) (hnl : n < 1000000000 ^ k) (hdl : D < 1000000000 ^ k) (hh : n * D < m) :
    Calls Tryz.prog 160 #[.agg #[.slice a7 l7 c7], .agg #[.slice a8 l8 c8], .pointer (some ⟨gs, 0, none⟩), .pointer (some ⟨gr, 0, none⟩)] w fun e w' => e = .returned (.bool false) ∧ Below w.heap.size w w' := by
  have hfs : ∀ W, Below w.heap.size w W → OwnU W gs 54 #[.slice a5 l5 c5, .slice a6 l6 c6] := fun W hb => hs.later hb
  obtain ⟨V, hV⟩ : ∃ V, V = ((w.alloc (.cells #[.slice a7 l7 c7] 51)).alloc (.cells #[.slice a8 l8 c8] 51)) := ⟨_, rfl⟩
  have HS0 : Hid (St w [((w.heap.size + 1), 51, #[.slice a8 l8 c8]), (w.heap.size, 51, #[.slice a7 l7 c7])] [(.agg #[.slice a6 l6 c6], D), (.agg #[.slice a8 l8 c8], n), (.agg #[.slice a7 l7 c7], m)] V) := by rw [hV]; have h := ((((((St.nil (Below.refl _ w)).push hm).push hn).push hd).new #[.slice a7 l7 c7] 51).new #[.slice a8 l8 c8] 51); (try simp only [World.size_alloc] at h); exact h
  have HV := hide hV
  have HFS := hide hfs
  have HK := hide hk
  have HNL := hide hnl
  have HDL := hide hdl
  have HH := hide hh
  clear hV hm hn hd hs hfs hk hnl hdl hh
  go_enter Tryz.func160, Tryz.ntmps160
  go_upto_region 1 with fail
  rw [← unhide HV]
  clear HV
  refine region_reads 6 (fun _ => True) (fun W' => W'.cell? ⟨w.heap.size, 0, none⟩ = some (.slice a7 l7 c7) ∧ W'.cell? ⟨(w.heap.size + 1), 0, none⟩ = some (.slice a8 l8 c8) ∧ W'.cell? ⟨gs, 1, none⟩ = some (.slice a6 l6 c6)) 7 rfl (by kernel_rfl) ?_
  have HS1 := hide ((unhide HS0).later ((Below.refl _ _).drew))
  clear HS0
  generalize V.drew = U0 at *
  refine wpR_take7 (i := 0) (oi := _) (v := .agg #[.slice a7 l7 c7]) rfl (by kernel_rfl) (by kernel_rfl) (by kernel_rfl) (by kernel_rfl) (fun _ _ _ h => h) (Or.inl ⟨by rfl, ?_⟩) ⟨trivial, ⟨((unhide HS1).at 1 rfl).ub.c 0 _ rfl, ((unhide HS1).at 0 rfl).ub.c 0 _ rfl, (unhide HFS _ (unhide HS1).below).ub.c 1 _ rfl⟩⟩ ?_
  · intro W' hW
    go_split_ands
    go_simp
  refine wpR_take7 (i := 1) (oi := _) (v := .agg #[.slice a8 l8 c8]) rfl (by kernel_rfl) (by kernel_rfl) (by kernel_rfl) (by kernel_rfl) (fun _ _ _ h => h) (Or.inl ⟨by rfl, ?_⟩) ⟨trivial, ⟨((unhide HS1).at 1 rfl).ub.c 0 _ rfl, ((unhide HS1).at 0 rfl).ub.c 0 _ rfl, (unhide HFS _ (unhide HS1).below).ub.c 1 _ rfl⟩⟩ ?_
  · intro W' hW
    go_split_ands
    go_simp
  refine wpR_take7 (i := 2) (oi := _) (v := .pointer (some ⟨gs, 1, none⟩)) rfl (by kernel_rfl) (by kernel_rfl) (by kernel_rfl) (by kernel_rfl) (fun _ _ _ h => h) (Or.inl ⟨by rfl, ?_⟩) ⟨trivial, ⟨((unhide HS1).at 1 rfl).ub.c 0 _ rfl, ((unhide HS1).at 0 rfl).ub.c 0 _ rfl, (unhide HFS _ (unhide HS1).below).ub.c 1 _ rfl⟩⟩ ?_
  · intro W' hW
    go_split_ands
    go_simp
  refine wpR_take7 (i := 3) (oi := _) (v := .agg #[.slice a6 l6 c6]) rfl (by kernel_rfl) (by kernel_rfl) (by kernel_rfl) (by kernel_rfl) (fun _ _ _ h => h) (Or.inl ⟨by rfl, ?_⟩) ⟨trivial, ⟨((unhide HS1).at 1 rfl).ub.c 0 _ rfl, ((unhide HS1).at 0 rfl).ub.c 0 _ rfl, (unhide HFS _ (unhide HS1).below).ub.c 1 _ rfl⟩⟩ ?_
  · intro W' hW
    go_split_ands
    go_simp
  refine wpR_op (i := 4) (o := _) (by kernel_rfl) rfl rfl (fun K hK => ?_)
  go_simp
  refine (mulB _ _ n D (n * D) k _ ((unhide HS1).bgt 1 rfl) ((unhide HS1).bgt 0 rfl) (unhide HK) (unhide HNL) (unhide HDL) rfl).mono ?_
  rintro e U1 ⟨a9, l9, c9, rfl, hv, hb⟩
  have HS2 := hide (((unhide HS1).later hb).push hv)
  clear HS1
  clear hv hb
  refine hK _ _ ⟨trivial, ⟨((unhide HS2).at 1 rfl).ub.c 0 _ rfl, ((unhide HS2).at 0 rfl).ub.c 0 _ rfl, (unhide HFS _ (unhide HS2).below).ub.c 1 _ rfl⟩⟩ ?_
  clear hK K
  refine wpR_op (i := 5) (o := _) (by kernel_rfl) rfl rfl (fun K hK => ?_)
  go_simp
  refine (cmp_any _ _ m (n * D) _ ((unhide HS2).bgt 3 rfl) ((unhide HS2).bgt 0 rfl)).mono ?_
  rintro e U2 ⟨rfl, hb⟩
  have HS3 := hide ((unhide HS2).later hb)
  clear HS2
  clear hb
  refine hK _ _ ⟨trivial, ⟨((unhide HS3).at 1 rfl).ub.c 0 _ rfl, ((unhide HS3).at 0 rfl).ub.c 0 _ rfl, (unhide HFS _ (unhide HS3).below).ub.c 1 _ rfl⟩⟩ ?_
  clear hK K
  rw [cmpN_gt' (unhide HH)]
  refine wpR_late (i := 6) (o := _) (by kernel_rfl) rfl rfl (by kernel_rfl) (fun K hK => ?_)
  go_simp
  refine hK _ _ (⟨((unhide HS3).at 1 rfl).ub.c 0 _ rfl, ((unhide HS3).at 0 rfl).ub.c 0 _ rfl, (unhide HFS _ (unhide HS3).below).ub.c 1 _ rfl⟩) ?_
  clear hK K
  refine wpR_done (by kernel_rfl) ?_
  go_wp2_with fail
  go_ret
  exact ⟨by simp, (unhide HS3).below⟩
theorem decimal_low (a1 : Option Addr) (l1 c1 : Nat) (a2 : Option Addr) (l2 c2 : Nat) (a3 : Option Addr) (l3 c3 : Nat) (a4 : Option Addr) (l4 c4 : Nat) (ev : Bool) (tt bl ab den D n k : Nat) (w : World) (ha : IsBig w (.agg #[.slice a1 l1 c1]) tt) (hb0 : IsBig w (.agg #[.slice a2 l2 c2]) bl) (hc0 : IsBig w (.agg #[.slice a3 l3 c3]) ab) (hd0 : IsBig w (.agg #[.slice a4 l4 c4]) den) (hn : n ≤ 17) (ht : ∀ W, Calls Tryz.prog 48 #[.int .i64 (-(n : Int))] W fun e w' => ∃ v, e = .returned v ∧ IsSz w' v 1 D ∧ Below W.heap.size W w') (hk : k ≤ 250000) (hd1 : 0 < den)
    (hl : tt < 1000000000 ^ k ∧ bl < 1000000000 ^ k ∧ ab < 1000000000 ^ k ∧ den < 1000000000 ^ k ∧ D < 1000000000 ^ k ∧ 1 < 1000000000 ^ k) (hlow : tt * D % (den * 1) < bl * D) (hhigh : ab * D < den * 1 - tt * D % (den * 1)) :
    Calls Tryz.prog 110 #[.agg #[.slice a1 l1 c1, .slice a2 l2 c2, .slice a3 l3 c3, .slice a4 l4 c4, .bool ev], .int .i64 (n : Int), .int .i64 0] w fun e w' => ∃ a l c, e = .returned (.tuple #[.agg #[.slice a l c], .bool true]) ∧ IsBig w' (.agg #[.slice a l c]) (tt * D / (den * 1)) ∧ Below w.heap.size w w' := by
  have hk2 : k + k ≤ 500000 ∧ tt * D < 1000000000 ^ (k + k) ∧ 0 < den * 1 := ⟨by omega, by rw [Nat.pow_add]; exact Nat.mul_lt_mul'' hl.1 hl.2.2.2.2.1, by omega⟩
  have HK2 := hide hk2
  clear hk2 hd1
  obtain ⟨V, hV⟩ : ∃ V, V = ((w.alloc (.cells #[.slice a1 l1 c1, .slice a2 l2 c2, .slice a3 l3 c3, .slice a4 l4 c4, .bool ev] 128)).alloc (.cells #[.slice none 0 0] 51)) := ⟨_, rfl⟩
  have HS0 : Hid (St w [((w.heap.size + 1), 51, #[.slice none 0 0]), (w.heap.size, 128, #[.slice a1 l1 c1, .slice a2 l2 c2, .slice a3 l3 c3, .slice a4 l4 c4, .bool ev])] [(.agg #[.slice a4 l4 c4], den), (.agg #[.slice a3 l3 c3], ab), (.agg #[.slice a2 l2 c2], bl), (.agg #[.slice a1 l1 c1], tt)] V) := by rw [hV]; have h := (((((((St.nil (Below.refl _ w)).push ha).push hb0).push hc0).push hd0).new #[.slice a1 l1 c1, .slice a2 l2 c2, .slice a3 l3 c3, .slice a4 l4 c4, .bool ev] 128).new #[.slice none 0 0] 51); (try simp only [World.size_alloc] at h); exact h
  have HV := hide hV
  have HT := hide ht
  have HK := hide hk
  have HL := hide hl
  have HLOW := hide hlow
  have HHIGH := hide hhigh
  clear hV ha hb0 hc0 hd0 ht hk hl hlow hhigh
  go_enter Tryz.func110, Tryz.ntmps110
  have hw0 : IntKind.i64.wrap (0 - (n : Int)) = -(n : Int) := by rw [IntKind.wrap_i64]; omega
  go_upto_region 1 with fail
  rw [← unhide HV]
  clear HV
  go_upto_region 2 with (first
    | (have hchk := HS0; clear hchk; go_at_call 48; go_must (refine (unhide HT _).mono ?_; rintro e U1 ⟨_, rfl, ⟨a5, l5, c5, a6, l6, c6, rfl, hv1, hv2⟩, hb⟩; have HS1 := hide ((((unhide HS0).later hb).push hv1).push hv2); clear HS0; clear hv1 hv2 hb))
    | (have hchk := HS1; clear hchk; refine storeT 54 2 info59 rfl (.tmp 8) (.tmp 20) rfl U1.heap.size #[.slice none 0 0, .slice none 0 0] #[.slice a5 l5 c5, .slice a6 l6 c6] rfl rfl rfl rfl (OwnU.new _ _ _) (by kernel_rfl) ?_))
  have HS2 := hide ((unhide HS1).new #[.slice none 0 0, .slice none 0 0] 54)
  clear HS1
  generalize U1.alloc (.cells #[.slice none 0 0, .slice none 0 0] 54) = U2 at *
  generalize U1.heap.size = g8 at *
  have HS3 := hide (((unhide HS2)).set (nz2 _ _ _ _ _ _) #[.slice a5 l5 c5, .slice a6 l6 c6])
  clear HS2
  generalize U2.setRow g8 #[.slice a5 l5 c5, .slice a6 l6 c6] = U3 at *
  have hpn : ∀ (a : Act) (v : Value), a.put none v = a := fun _ _ => rfl
  simp only [hpn]
  clear hpn
  have u0 := ((unhide HS3).at 2 rfl).ub.c 3 _ rfl
  have u1 := ((unhide HS3).at 0 rfl).ub.c 0 _ rfl
  go_upto_region 3 with (have hchk := HS3; clear hchk; go_at_call 99; go_must (refine (mulB _ _ den 1 (den * 1) k _ ((unhide HS3).bgt 2 rfl) ((unhide HS3).bgt 1 rfl) (by have := unhide HK; omega) (unhide HL).2.2.2.1 (unhide HL).2.2.2.2.2 rfl).mono ?_; rintro e U4 ⟨a7, l7, c7, rfl, hv, hb⟩; have HS4 := hide (((unhide HS3).later hb).push hv); clear HS3; clear hv hb u0 u1))
  have HS5 := hide ((unhide HS4).new #[.slice a7 l7 c7] 51)
  clear HS4
  generalize U4.alloc (.cells #[.slice a7 l7 c7] 51) = U5 at *
  generalize U4.heap.size = g9 at *
  go_upto_region 4 with fail
  go_cut [11, 12] from 27 (fun s11 s12 wx => ∃ g11 g12 a9 l9 c9 a10 l10 c10, s11 = .pointer (some ⟨g11, 0, none⟩) ∧ s12 = .pointer (some ⟨g12, 0, none⟩) ∧ Hid (St w [(g12, 51, #[.slice a10 l10 c10]), (g11, 51, #[.slice a9 l9 c9]), (g9, 51, #[.slice a7 l7 c7]), (g8, 54, #[.slice a5 l5 c5, .slice a6 l6 c6]), ((w.heap.size + 1), 51, #[.slice none 0 0]), (w.heap.size, 128, #[.slice a1 l1 c1, .slice a2 l2 c2, .slice a3 l3 c3, .slice a4 l4 c4, .bool ev])] [(.agg #[.slice a10 l10 c10], tt * D % (den * 1)), (.agg #[.slice a9 l9 c9], tt * D / (den * 1)), (.agg #[.slice a7 l7 c7], den * 1), (.agg #[.slice a6 l6 c6], D), (.agg #[.slice a5 l5 c5], 1), (.agg #[.slice a4 l4 c4], den), (.agg #[.slice a3 l3 c3], ab), (.agg #[.slice a2 l2 c2], bl), (.agg #[.slice a1 l1 c1], tt)] wx))
  case first =>
    refine region_reads 12 (fun _ => True) (fun W' => W'.cell? ⟨w.heap.size, 0, none⟩ = some (.slice a1 l1 c1) ∧ W'.cell? ⟨g8, 1, none⟩ = some (.slice a6 l6 c6) ∧ W'.cell? ⟨g9, 0, none⟩ = some (.slice a7 l7 c7)) 14 rfl (by kernel_rfl) ?_
    have HS6 := hide ((unhide HS5).later ((Below.refl _ _).drew))
    clear HS5
    generalize U5.drew = X0 at *
    refine wpR_take7 (i := 0) (oi := _) (v := .pointer (some ⟨w.heap.size, 0, none⟩)) rfl (by kernel_rfl) (by kernel_rfl) (by kernel_rfl) (by kernel_rfl) (fun _ _ _ h => h) (Or.inl ⟨by rfl, ?_⟩) ⟨trivial, ⟨((unhide HS6).at 3 rfl).ub.c 0 _ rfl, ((unhide HS6).at 1 rfl).ub.c 1 _ rfl, ((unhide HS6).at 0 rfl).ub.c 0 _ rfl⟩⟩ ?_
    · intro W' hW
      go_split_ands
      go_simp
    refine wpR_take7 (i := 1) (oi := _) (v := .agg #[.slice a1 l1 c1]) rfl (by kernel_rfl) (by kernel_rfl) (by kernel_rfl) (by kernel_rfl) (fun _ _ _ h => h) (Or.inl ⟨by rfl, ?_⟩) ⟨trivial, ⟨((unhide HS6).at 3 rfl).ub.c 0 _ rfl, ((unhide HS6).at 1 rfl).ub.c 1 _ rfl, ((unhide HS6).at 0 rfl).ub.c 0 _ rfl⟩⟩ ?_
    · intro W' hW
      go_split_ands
      go_simp
    refine wpR_take7 (i := 2) (oi := _) (v := .pointer (some ⟨g8, 1, none⟩)) rfl (by kernel_rfl) (by kernel_rfl) (by kernel_rfl) (by kernel_rfl) (fun _ _ _ h => h) (Or.inl ⟨by rfl, ?_⟩) ⟨trivial, ⟨((unhide HS6).at 3 rfl).ub.c 0 _ rfl, ((unhide HS6).at 1 rfl).ub.c 1 _ rfl, ((unhide HS6).at 0 rfl).ub.c 0 _ rfl⟩⟩ ?_
    · intro W' hW
      go_split_ands
      go_simp
    refine wpR_take7 (i := 3) (oi := _) (v := .agg #[.slice a6 l6 c6]) rfl (by kernel_rfl) (by kernel_rfl) (by kernel_rfl) (by kernel_rfl) (fun _ _ _ h => h) (Or.inl ⟨by rfl, ?_⟩) ⟨trivial, ⟨((unhide HS6).at 3 rfl).ub.c 0 _ rfl, ((unhide HS6).at 1 rfl).ub.c 1 _ rfl, ((unhide HS6).at 0 rfl).ub.c 0 _ rfl⟩⟩ ?_
    · intro W' hW
      go_split_ands
      go_simp
    refine wpR_take7 (i := 5) (oi := _) (v := .agg #[.slice a7 l7 c7]) rfl (by kernel_rfl) (by kernel_rfl) (by kernel_rfl) (by kernel_rfl) (fun _ _ _ h => h) (Or.inl ⟨by rfl, ?_⟩) ⟨trivial, ⟨((unhide HS6).at 3 rfl).ub.c 0 _ rfl, ((unhide HS6).at 1 rfl).ub.c 1 _ rfl, ((unhide HS6).at 0 rfl).ub.c 0 _ rfl⟩⟩ ?_
    · intro W' hW
      go_split_ands
      go_simp
    refine wpR_three (i := 4) (j := 10) (m := 11) (by kernel_rfl) rfl rfl rfl rfl rfl rfl (fun K hK => ?_) (fun K hK => ?_) (fun K hK => ?_) 
    · go_simp
      refine (mulB _ _ tt D (tt * D) k _ ((unhide HS6).bgt 6 rfl) ((unhide HS6).bgt 1 rfl) (by have := unhide HK; omega) (unhide HL).1 (unhide HL).2.2.2.2.1 rfl).mono ?_
      rintro e X1 ⟨a8, l8, c8, rfl, hv, hb⟩
      have HS7 := hide (((unhide HS6).later hb).push hv)
      clear HS6
      clear hv hb
      refine hK _ _ ⟨trivial, ⟨((unhide HS7).at 3 rfl).ub.c 0 _ rfl, ((unhide HS7).at 1 rfl).ub.c 1 _ rfl, ((unhide HS7).at 0 rfl).ub.c 0 _ rfl⟩⟩ ?_
      clear hK K
      refine wpR_three (i := 6) (j := 10) (m := 11) (by kernel_rfl) rfl rfl rfl rfl rfl rfl (fun K hK => ?_) (fun K hK => ?_) (fun K hK => ?_) 
      · go_simp
        refine (divModB _ _ (tt * D) (den * 1) (k + k) _ ((unhide HS7).bgt 0 rfl) ((unhide HS7).bgt 1 rfl) (unhide HK2).1 (unhide HK2).2.1 (unhide HK2).2.2).mono ?_
        rintro e X2 ⟨a9, l9, c9, a10, l10, c10, rfl, hv1, hv2, hb⟩
        have HS8 := hide ((((unhide HS7).later hb).push hv1).push hv2)
        clear HS7
        clear hv1 hv2 hb
        refine hK _ _ ⟨trivial, ⟨((unhide HS8).at 3 rfl).ub.c 0 _ rfl, ((unhide HS8).at 1 rfl).ub.c 1 _ rfl, ((unhide HS8).at 0 rfl).ub.c 0 _ rfl⟩⟩ ?_
        clear hK K
        refine wpR_take7 (i := 7) (oi := _) (v := .tuple #[.agg #[.slice a9 l9 c9], .agg #[.slice a10 l10 c10]]) rfl (by kernel_rfl) (by kernel_rfl) (by kernel_rfl) (by kernel_rfl) (fun _ _ _ h => h) (Or.inl ⟨by rfl, ?_⟩) ⟨trivial, ⟨((unhide HS8).at 3 rfl).ub.c 0 _ rfl, ((unhide HS8).at 1 rfl).ub.c 1 _ rfl, ((unhide HS8).at 0 rfl).ub.c 0 _ rfl⟩⟩ ?_
        · intro W' hW
          go_split_ands
          go_simp
        refine wpR_take7 (i := 8) (oi := _) (v := .agg #[.slice a9 l9 c9]) rfl (by kernel_rfl) (by kernel_rfl) (by kernel_rfl) (by kernel_rfl) (fun _ _ _ h => h) (Or.inl ⟨by rfl, ?_⟩) ⟨trivial, ⟨((unhide HS8).at 3 rfl).ub.c 0 _ rfl, ((unhide HS8).at 1 rfl).ub.c 1 _ rfl, ((unhide HS8).at 0 rfl).ub.c 0 _ rfl⟩⟩ ?_
        · intro W' hW
          go_split_ands
          go_simp
        refine wpR_take7 (i := 9) (oi := _) (v := .agg #[.slice a10 l10 c10]) rfl (by kernel_rfl) (by kernel_rfl) (by kernel_rfl) (by kernel_rfl) (fun _ _ _ h => h) (Or.inl ⟨by rfl, ?_⟩) ⟨trivial, ⟨((unhide HS8).at 3 rfl).ub.c 0 _ rfl, ((unhide HS8).at 1 rfl).ub.c 1 _ rfl, ((unhide HS8).at 0 rfl).ub.c 0 _ rfl⟩⟩ ?_
        · intro W' hW
          go_split_ands
          go_simp
        refine wpR_two (i := 10) (j := 11) (by kernel_rfl) rfl rfl rfl rfl (fun K hK => ?_) (fun K hK => ?_) 
        · go_simp
          have HS9 := hide ((unhide HS8).new #[.slice none 0 0] 51)
          clear HS8
          generalize X2.alloc (.cells #[.slice none 0 0] 51) = X3 at *
          generalize X2.heap.size = g11 at *
          refine hK _ _ ⟨trivial, ⟨((unhide HS9).at 4 rfl).ub.c 0 _ rfl, ((unhide HS9).at 2 rfl).ub.c 1 _ rfl, ((unhide HS9).at 1 rfl).ub.c 0 _ rfl⟩⟩ ?_
          clear hK K
          refine wpR_op (i := 11) (o := _) (by kernel_rfl) rfl rfl (fun K hK => ?_)
          go_simp
          have HS10 := hide ((unhide HS9).new #[.slice none 0 0] 51)
          clear HS9
          generalize X3.alloc (.cells #[.slice none 0 0] 51) = X4 at *
          generalize X3.heap.size = g12 at *
          refine hK _ _ ⟨trivial, ⟨((unhide HS10).at 5 rfl).ub.c 0 _ rfl, ((unhide HS10).at 3 rfl).ub.c 1 _ rfl, ((unhide HS10).at 2 rfl).ub.c 0 _ rfl⟩⟩ ?_
          clear hK K
          have u0 := ((unhide HS10).at 1 rfl).ub.c 0 _ rfl
          have u1 := ((unhide HS10).at 1 rfl).ub.f 0 (.slice none 0 0) rfl
          refine wpR_late (i := 12) (o := _) (by kernel_rfl) rfl rfl (by kernel_rfl) (fun K hK => ?_)
          go_simp
          clear u0 u1
          rw [((unhide HS10).at 1 rfl).set1]
          have HS11 := hide (((unhide HS10).rot).set (nz1 _ _ _) #[.slice a9 l9 c9])
          clear HS10
          generalize X4.setRow g11 #[.slice a9 l9 c9] = X5 at *
          refine hK _ _ (⟨((unhide HS11).at 4 rfl).ub.c 0 _ rfl, ((unhide HS11).at 2 rfl).ub.c 1 _ rfl, ((unhide HS11).at 1 rfl).ub.c 0 _ rfl⟩) ?_
          clear hK K
          have u0 := ((unhide HS11).at 5 rfl).ub.c 0 _ rfl
          have u1 := ((unhide HS11).at 5 rfl).ub.f 0 (.slice none 0 0) rfl
          refine wpR_late (i := 13) (o := _) (by kernel_rfl) rfl rfl (by kernel_rfl) (fun K hK => ?_)
          go_simp
          clear u0 u1
          rw [((unhide HS11).at 5 rfl).set1]
          have HS12 := hide (((unhide HS11).rot.rot.rot.rot.rot).set (nz1 _ _ _) #[.slice a10 l10 c10])
          clear HS11
          generalize X5.setRow g12 #[.slice a10 l10 c10] = X6 at *
          refine hK _ _ (⟨((unhide HS12).at 5 rfl).ub.c 0 _ rfl, ((unhide HS12).at 3 rfl).ub.c 1 _ rfl, ((unhide HS12).at 2 rfl).ub.c 0 _ rfl⟩) ?_
          clear hK K
          refine wpR_done (by kernel_rfl) ?_
          go_wp2_with fail
          go_meet
          exact ⟨g11, g12, a9, l9, c9, a10, l10, c10, rfl, rfl, hide (((unhide HS12)).no3)⟩
        · go_simp
          have HS9 := hide ((unhide HS8).new #[.slice none 0 0] 51)
          clear HS8
          generalize X2.alloc (.cells #[.slice none 0 0] 51) = X7 at *
          generalize X2.heap.size = g12 at *
          refine hK _ _ ⟨trivial, ⟨((unhide HS9).at 4 rfl).ub.c 0 _ rfl, ((unhide HS9).at 2 rfl).ub.c 1 _ rfl, ((unhide HS9).at 1 rfl).ub.c 0 _ rfl⟩⟩ ?_
          clear hK K
          refine wpR_op (i := 10) (o := _) (by kernel_rfl) rfl rfl (fun K hK => ?_)
          go_simp
          have HS10 := hide ((unhide HS9).new #[.slice none 0 0] 51)
          clear HS9
          generalize X7.alloc (.cells #[.slice none 0 0] 51) = X8 at *
          generalize X7.heap.size = g11 at *
          refine hK _ _ ⟨trivial, ⟨((unhide HS10).at 5 rfl).ub.c 0 _ rfl, ((unhide HS10).at 3 rfl).ub.c 1 _ rfl, ((unhide HS10).at 2 rfl).ub.c 0 _ rfl⟩⟩ ?_
          clear hK K
          have u0 := ((unhide HS10).at 0 rfl).ub.c 0 _ rfl
          have u1 := ((unhide HS10).at 0 rfl).ub.f 0 (.slice none 0 0) rfl
          refine wpR_late (i := 12) (o := _) (by kernel_rfl) rfl rfl (by kernel_rfl) (fun K hK => ?_)
          go_simp
          clear u0 u1
          rw [((unhide HS10).at 0 rfl).set1]
          have HS11 := hide (((unhide HS10)).set (nz1 _ _ _) #[.slice a9 l9 c9])
          clear HS10
          generalize X8.setRow g11 #[.slice a9 l9 c9] = X9 at *
          refine hK _ _ (⟨((unhide HS11).at 5 rfl).ub.c 0 _ rfl, ((unhide HS11).at 3 rfl).ub.c 1 _ rfl, ((unhide HS11).at 2 rfl).ub.c 0 _ rfl⟩) ?_
          clear hK K
          have u0 := ((unhide HS11).at 1 rfl).ub.c 0 _ rfl
          have u1 := ((unhide HS11).at 1 rfl).ub.f 0 (.slice none 0 0) rfl
          refine wpR_late (i := 13) (o := _) (by kernel_rfl) rfl rfl (by kernel_rfl) (fun K hK => ?_)
          go_simp
          clear u0 u1
          rw [((unhide HS11).at 1 rfl).set1]
          have HS12 := hide (((unhide HS11).rot).set (nz1 _ _ _) #[.slice a10 l10 c10])
          clear HS11
          generalize X9.setRow g12 #[.slice a10 l10 c10] = X10 at *
          refine hK _ _ (⟨((unhide HS12).at 4 rfl).ub.c 0 _ rfl, ((unhide HS12).at 2 rfl).ub.c 1 _ rfl, ((unhide HS12).at 1 rfl).ub.c 0 _ rfl⟩) ?_
          clear hK K
          refine wpR_done (by kernel_rfl) ?_
          go_wp2_with fail
          go_meet
          exact ⟨g11, g12, a9, l9, c9, a10, l10, c10, rfl, rfl, hide (((unhide HS12).rot.rot.rot.rot.rot.sw).no3)⟩
      · go_simp
        have HS8 := hide ((unhide HS7).new #[.slice none 0 0] 51)
        clear HS7
        generalize X1.alloc (.cells #[.slice none 0 0] 51) = X11 at *
        generalize X1.heap.size = g11 at *
        refine hK _ _ ⟨trivial, ⟨((unhide HS8).at 4 rfl).ub.c 0 _ rfl, ((unhide HS8).at 2 rfl).ub.c 1 _ rfl, ((unhide HS8).at 1 rfl).ub.c 0 _ rfl⟩⟩ ?_
        clear hK K
        refine wpR_two (i := 6) (j := 11) (by kernel_rfl) rfl rfl rfl rfl (fun K hK => ?_) (fun K hK => ?_) 
        · go_simp
          refine (divModB _ _ (tt * D) (den * 1) (k + k) _ ((unhide HS8).bgt 0 rfl) ((unhide HS8).bgt 1 rfl) (unhide HK2).1 (unhide HK2).2.1 (unhide HK2).2.2).mono ?_
          rintro e X12 ⟨a9, l9, c9, a10, l10, c10, rfl, hv1, hv2, hb⟩
          have HS9 := hide ((((unhide HS8).later hb).push hv1).push hv2)
          clear HS8
          clear hv1 hv2 hb
          refine hK _ _ ⟨trivial, ⟨((unhide HS9).at 4 rfl).ub.c 0 _ rfl, ((unhide HS9).at 2 rfl).ub.c 1 _ rfl, ((unhide HS9).at 1 rfl).ub.c 0 _ rfl⟩⟩ ?_
          clear hK K
          refine wpR_take7 (i := 7) (oi := _) (v := .tuple #[.agg #[.slice a9 l9 c9], .agg #[.slice a10 l10 c10]]) rfl (by kernel_rfl) (by kernel_rfl) (by kernel_rfl) (by kernel_rfl) (fun _ _ _ h => h) (Or.inl ⟨by rfl, ?_⟩) ⟨trivial, ⟨((unhide HS9).at 4 rfl).ub.c 0 _ rfl, ((unhide HS9).at 2 rfl).ub.c 1 _ rfl, ((unhide HS9).at 1 rfl).ub.c 0 _ rfl⟩⟩ ?_
          · intro W' hW
            go_split_ands
            go_simp
          refine wpR_take7 (i := 8) (oi := _) (v := .agg #[.slice a9 l9 c9]) rfl (by kernel_rfl) (by kernel_rfl) (by kernel_rfl) (by kernel_rfl) (fun _ _ _ h => h) (Or.inl ⟨by rfl, ?_⟩) ⟨trivial, ⟨((unhide HS9).at 4 rfl).ub.c 0 _ rfl, ((unhide HS9).at 2 rfl).ub.c 1 _ rfl, ((unhide HS9).at 1 rfl).ub.c 0 _ rfl⟩⟩ ?_
          · intro W' hW
            go_split_ands
            go_simp
          refine wpR_take7 (i := 9) (oi := _) (v := .agg #[.slice a10 l10 c10]) rfl (by kernel_rfl) (by kernel_rfl) (by kernel_rfl) (by kernel_rfl) (fun _ _ _ h => h) (Or.inl ⟨by rfl, ?_⟩) ⟨trivial, ⟨((unhide HS9).at 4 rfl).ub.c 0 _ rfl, ((unhide HS9).at 2 rfl).ub.c 1 _ rfl, ((unhide HS9).at 1 rfl).ub.c 0 _ rfl⟩⟩ ?_
          · intro W' hW
            go_split_ands
            go_simp
          refine wpR_op (i := 11) (o := _) (by kernel_rfl) rfl rfl (fun K hK => ?_)
          go_simp
          have HS10 := hide ((unhide HS9).new #[.slice none 0 0] 51)
          clear HS9
          generalize X12.alloc (.cells #[.slice none 0 0] 51) = X13 at *
          generalize X12.heap.size = g12 at *
          refine hK _ _ ⟨trivial, ⟨((unhide HS10).at 5 rfl).ub.c 0 _ rfl, ((unhide HS10).at 3 rfl).ub.c 1 _ rfl, ((unhide HS10).at 2 rfl).ub.c 0 _ rfl⟩⟩ ?_
          clear hK K
          have u0 := ((unhide HS10).at 1 rfl).ub.c 0 _ rfl
          have u1 := ((unhide HS10).at 1 rfl).ub.f 0 (.slice none 0 0) rfl
          refine wpR_late (i := 12) (o := _) (by kernel_rfl) rfl rfl (by kernel_rfl) (fun K hK => ?_)
          go_simp
          clear u0 u1
          rw [((unhide HS10).at 1 rfl).set1]
          have HS11 := hide (((unhide HS10).rot).set (nz1 _ _ _) #[.slice a9 l9 c9])
          clear HS10
          generalize X13.setRow g11 #[.slice a9 l9 c9] = X14 at *
          refine hK _ _ (⟨((unhide HS11).at 4 rfl).ub.c 0 _ rfl, ((unhide HS11).at 2 rfl).ub.c 1 _ rfl, ((unhide HS11).at 1 rfl).ub.c 0 _ rfl⟩) ?_
          clear hK K
          have u0 := ((unhide HS11).at 5 rfl).ub.c 0 _ rfl
          have u1 := ((unhide HS11).at 5 rfl).ub.f 0 (.slice none 0 0) rfl
          refine wpR_late (i := 13) (o := _) (by kernel_rfl) rfl rfl (by kernel_rfl) (fun K hK => ?_)
          go_simp
          clear u0 u1
          rw [((unhide HS11).at 5 rfl).set1]
          have HS12 := hide (((unhide HS11).rot.rot.rot.rot.rot).set (nz1 _ _ _) #[.slice a10 l10 c10])
          clear HS11
          generalize X14.setRow g12 #[.slice a10 l10 c10] = X15 at *
          refine hK _ _ (⟨((unhide HS12).at 5 rfl).ub.c 0 _ rfl, ((unhide HS12).at 3 rfl).ub.c 1 _ rfl, ((unhide HS12).at 2 rfl).ub.c 0 _ rfl⟩) ?_
          clear hK K
          refine wpR_done (by kernel_rfl) ?_
          go_wp2_with fail
          go_meet
          exact ⟨g11, g12, a9, l9, c9, a10, l10, c10, rfl, rfl, hide (((unhide HS12)).no3)⟩
        · go_simp
          have HS9 := hide ((unhide HS8).new #[.slice none 0 0] 51)
          clear HS8
          generalize X11.alloc (.cells #[.slice none 0 0] 51) = X16 at *
          generalize X11.heap.size = g12 at *
          refine hK _ _ ⟨trivial, ⟨((unhide HS9).at 5 rfl).ub.c 0 _ rfl, ((unhide HS9).at 3 rfl).ub.c 1 _ rfl, ((unhide HS9).at 2 rfl).ub.c 0 _ rfl⟩⟩ ?_
          clear hK K
          refine wpR_op (i := 6) (o := _) (by kernel_rfl) rfl rfl (fun K hK => ?_)
          go_simp
          refine (divModB _ _ (tt * D) (den * 1) (k + k) _ ((unhide HS9).bgt 0 rfl) ((unhide HS9).bgt 1 rfl) (unhide HK2).1 (unhide HK2).2.1 (unhide HK2).2.2).mono ?_
          rintro e X17 ⟨a9, l9, c9, a10, l10, c10, rfl, hv1, hv2, hb⟩
          have HS10 := hide ((((unhide HS9).later hb).push hv1).push hv2)
          clear HS9
          clear hv1 hv2 hb
          refine hK _ _ ⟨trivial, ⟨((unhide HS10).at 5 rfl).ub.c 0 _ rfl, ((unhide HS10).at 3 rfl).ub.c 1 _ rfl, ((unhide HS10).at 2 rfl).ub.c 0 _ rfl⟩⟩ ?_
          clear hK K
          refine wpR_take7 (i := 7) (oi := _) (v := .tuple #[.agg #[.slice a9 l9 c9], .agg #[.slice a10 l10 c10]]) rfl (by kernel_rfl) (by kernel_rfl) (by kernel_rfl) (by kernel_rfl) (fun _ _ _ h => h) (Or.inl ⟨by rfl, ?_⟩) ⟨trivial, ⟨((unhide HS10).at 5 rfl).ub.c 0 _ rfl, ((unhide HS10).at 3 rfl).ub.c 1 _ rfl, ((unhide HS10).at 2 rfl).ub.c 0 _ rfl⟩⟩ ?_
          · intro W' hW
            go_split_ands
            go_simp
          refine wpR_take7 (i := 8) (oi := _) (v := .agg #[.slice a9 l9 c9]) rfl (by kernel_rfl) (by kernel_rfl) (by kernel_rfl) (by kernel_rfl) (fun _ _ _ h => h) (Or.inl ⟨by rfl, ?_⟩) ⟨trivial, ⟨((unhide HS10).at 5 rfl).ub.c 0 _ rfl, ((unhide HS10).at 3 rfl).ub.c 1 _ rfl, ((unhide HS10).at 2 rfl).ub.c 0 _ rfl⟩⟩ ?_
          · intro W' hW
            go_split_ands
            go_simp
          refine wpR_take7 (i := 9) (oi := _) (v := .agg #[.slice a10 l10 c10]) rfl (by kernel_rfl) (by kernel_rfl) (by kernel_rfl) (by kernel_rfl) (fun _ _ _ h => h) (Or.inl ⟨by rfl, ?_⟩) ⟨trivial, ⟨((unhide HS10).at 5 rfl).ub.c 0 _ rfl, ((unhide HS10).at 3 rfl).ub.c 1 _ rfl, ((unhide HS10).at 2 rfl).ub.c 0 _ rfl⟩⟩ ?_
          · intro W' hW
            go_split_ands
            go_simp
          have u0 := ((unhide HS10).at 1 rfl).ub.c 0 _ rfl
          have u1 := ((unhide HS10).at 1 rfl).ub.f 0 (.slice none 0 0) rfl
          refine wpR_late (i := 12) (o := _) (by kernel_rfl) rfl rfl (by kernel_rfl) (fun K hK => ?_)
          go_simp
          clear u0 u1
          rw [((unhide HS10).at 1 rfl).set1]
          have HS11 := hide (((unhide HS10).rot).set (nz1 _ _ _) #[.slice a9 l9 c9])
          clear HS10
          generalize X17.setRow g11 #[.slice a9 l9 c9] = X18 at *
          refine hK _ _ (⟨((unhide HS11).at 4 rfl).ub.c 0 _ rfl, ((unhide HS11).at 2 rfl).ub.c 1 _ rfl, ((unhide HS11).at 1 rfl).ub.c 0 _ rfl⟩) ?_
          clear hK K
          have u0 := ((unhide HS11).at 5 rfl).ub.c 0 _ rfl
          have u1 := ((unhide HS11).at 5 rfl).ub.f 0 (.slice none 0 0) rfl
          refine wpR_late (i := 13) (o := _) (by kernel_rfl) rfl rfl (by kernel_rfl) (fun K hK => ?_)
          go_simp
          clear u0 u1
          rw [((unhide HS11).at 5 rfl).set1]
          have HS12 := hide (((unhide HS11).rot.rot.rot.rot.rot).set (nz1 _ _ _) #[.slice a10 l10 c10])
          clear HS11
          generalize X18.setRow g12 #[.slice a10 l10 c10] = X19 at *
          refine hK _ _ (⟨((unhide HS12).at 5 rfl).ub.c 0 _ rfl, ((unhide HS12).at 3 rfl).ub.c 1 _ rfl, ((unhide HS12).at 2 rfl).ub.c 0 _ rfl⟩) ?_
          clear hK K
          refine wpR_done (by kernel_rfl) ?_
          go_wp2_with fail
          go_meet
          exact ⟨g11, g12, a9, l9, c9, a10, l10, c10, rfl, rfl, hide (((unhide HS12)).no3)⟩
      · go_simp
        have HS8 := hide ((unhide HS7).new #[.slice none 0 0] 51)
        clear HS7
        generalize X1.alloc (.cells #[.slice none 0 0] 51) = X20 at *
        generalize X1.heap.size = g12 at *
        refine hK _ _ ⟨trivial, ⟨((unhide HS8).at 4 rfl).ub.c 0 _ rfl, ((unhide HS8).at 2 rfl).ub.c 1 _ rfl, ((unhide HS8).at 1 rfl).ub.c 0 _ rfl⟩⟩ ?_
        clear hK K
        refine wpR_two (i := 6) (j := 10) (by kernel_rfl) rfl rfl rfl rfl (fun K hK => ?_) (fun K hK => ?_) 
        · go_simp
          refine (divModB _ _ (tt * D) (den * 1) (k + k) _ ((unhide HS8).bgt 0 rfl) ((unhide HS8).bgt 1 rfl) (unhide HK2).1 (unhide HK2).2.1 (unhide HK2).2.2).mono ?_
          rintro e X21 ⟨a9, l9, c9, a10, l10, c10, rfl, hv1, hv2, hb⟩
          have HS9 := hide ((((unhide HS8).later hb).push hv1).push hv2)
          clear HS8
          clear hv1 hv2 hb
          refine hK _ _ ⟨trivial, ⟨((unhide HS9).at 4 rfl).ub.c 0 _ rfl, ((unhide HS9).at 2 rfl).ub.c 1 _ rfl, ((unhide HS9).at 1 rfl).ub.c 0 _ rfl⟩⟩ ?_
          clear hK K
          refine wpR_take7 (i := 7) (oi := _) (v := .tuple #[.agg #[.slice a9 l9 c9], .agg #[.slice a10 l10 c10]]) rfl (by kernel_rfl) (by kernel_rfl) (by kernel_rfl) (by kernel_rfl) (fun _ _ _ h => h) (Or.inl ⟨by rfl, ?_⟩) ⟨trivial, ⟨((unhide HS9).at 4 rfl).ub.c 0 _ rfl, ((unhide HS9).at 2 rfl).ub.c 1 _ rfl, ((unhide HS9).at 1 rfl).ub.c 0 _ rfl⟩⟩ ?_
          · intro W' hW
            go_split_ands
            go_simp
          refine wpR_take7 (i := 8) (oi := _) (v := .agg #[.slice a9 l9 c9]) rfl (by kernel_rfl) (by kernel_rfl) (by kernel_rfl) (by kernel_rfl) (fun _ _ _ h => h) (Or.inl ⟨by rfl, ?_⟩) ⟨trivial, ⟨((unhide HS9).at 4 rfl).ub.c 0 _ rfl, ((unhide HS9).at 2 rfl).ub.c 1 _ rfl, ((unhide HS9).at 1 rfl).ub.c 0 _ rfl⟩⟩ ?_
          · intro W' hW
            go_split_ands
            go_simp
          refine wpR_take7 (i := 9) (oi := _) (v := .agg #[.slice a10 l10 c10]) rfl (by kernel_rfl) (by kernel_rfl) (by kernel_rfl) (by kernel_rfl) (fun _ _ _ h => h) (Or.inl ⟨by rfl, ?_⟩) ⟨trivial, ⟨((unhide HS9).at 4 rfl).ub.c 0 _ rfl, ((unhide HS9).at 2 rfl).ub.c 1 _ rfl, ((unhide HS9).at 1 rfl).ub.c 0 _ rfl⟩⟩ ?_
          · intro W' hW
            go_split_ands
            go_simp
          refine wpR_op (i := 10) (o := _) (by kernel_rfl) rfl rfl (fun K hK => ?_)
          go_simp
          have HS10 := hide ((unhide HS9).new #[.slice none 0 0] 51)
          clear HS9
          generalize X21.alloc (.cells #[.slice none 0 0] 51) = X22 at *
          generalize X21.heap.size = g11 at *
          refine hK _ _ ⟨trivial, ⟨((unhide HS10).at 5 rfl).ub.c 0 _ rfl, ((unhide HS10).at 3 rfl).ub.c 1 _ rfl, ((unhide HS10).at 2 rfl).ub.c 0 _ rfl⟩⟩ ?_
          clear hK K
          have u0 := ((unhide HS10).at 0 rfl).ub.c 0 _ rfl
          have u1 := ((unhide HS10).at 0 rfl).ub.f 0 (.slice none 0 0) rfl
          refine wpR_late (i := 12) (o := _) (by kernel_rfl) rfl rfl (by kernel_rfl) (fun K hK => ?_)
          go_simp
          clear u0 u1
          rw [((unhide HS10).at 0 rfl).set1]
          have HS11 := hide (((unhide HS10)).set (nz1 _ _ _) #[.slice a9 l9 c9])
          clear HS10
          generalize X22.setRow g11 #[.slice a9 l9 c9] = X23 at *
          refine hK _ _ (⟨((unhide HS11).at 5 rfl).ub.c 0 _ rfl, ((unhide HS11).at 3 rfl).ub.c 1 _ rfl, ((unhide HS11).at 2 rfl).ub.c 0 _ rfl⟩) ?_
          clear hK K
          have u0 := ((unhide HS11).at 1 rfl).ub.c 0 _ rfl
          have u1 := ((unhide HS11).at 1 rfl).ub.f 0 (.slice none 0 0) rfl
          refine wpR_late (i := 13) (o := _) (by kernel_rfl) rfl rfl (by kernel_rfl) (fun K hK => ?_)
          go_simp
          clear u0 u1
          rw [((unhide HS11).at 1 rfl).set1]
          have HS12 := hide (((unhide HS11).rot).set (nz1 _ _ _) #[.slice a10 l10 c10])
          clear HS11
          generalize X23.setRow g12 #[.slice a10 l10 c10] = X24 at *
          refine hK _ _ (⟨((unhide HS12).at 4 rfl).ub.c 0 _ rfl, ((unhide HS12).at 2 rfl).ub.c 1 _ rfl, ((unhide HS12).at 1 rfl).ub.c 0 _ rfl⟩) ?_
          clear hK K
          refine wpR_done (by kernel_rfl) ?_
          go_wp2_with fail
          go_meet
          exact ⟨g11, g12, a9, l9, c9, a10, l10, c10, rfl, rfl, hide (((unhide HS12).rot.rot.rot.rot.rot.sw).no3)⟩
        · go_simp
          have HS9 := hide ((unhide HS8).new #[.slice none 0 0] 51)
          clear HS8
          generalize X20.alloc (.cells #[.slice none 0 0] 51) = X25 at *
          generalize X20.heap.size = g11 at *
          refine hK _ _ ⟨trivial, ⟨((unhide HS9).at 5 rfl).ub.c 0 _ rfl, ((unhide HS9).at 3 rfl).ub.c 1 _ rfl, ((unhide HS9).at 2 rfl).ub.c 0 _ rfl⟩⟩ ?_
          clear hK K
          refine wpR_op (i := 6) (o := _) (by kernel_rfl) rfl rfl (fun K hK => ?_)
          go_simp
          refine (divModB _ _ (tt * D) (den * 1) (k + k) _ ((unhide HS9).bgt 0 rfl) ((unhide HS9).bgt 1 rfl) (unhide HK2).1 (unhide HK2).2.1 (unhide HK2).2.2).mono ?_
          rintro e X26 ⟨a9, l9, c9, a10, l10, c10, rfl, hv1, hv2, hb⟩
          have HS10 := hide ((((unhide HS9).later hb).push hv1).push hv2)
          clear HS9
          clear hv1 hv2 hb
          refine hK _ _ ⟨trivial, ⟨((unhide HS10).at 5 rfl).ub.c 0 _ rfl, ((unhide HS10).at 3 rfl).ub.c 1 _ rfl, ((unhide HS10).at 2 rfl).ub.c 0 _ rfl⟩⟩ ?_
          clear hK K
          refine wpR_take7 (i := 7) (oi := _) (v := .tuple #[.agg #[.slice a9 l9 c9], .agg #[.slice a10 l10 c10]]) rfl (by kernel_rfl) (by kernel_rfl) (by kernel_rfl) (by kernel_rfl) (fun _ _ _ h => h) (Or.inl ⟨by rfl, ?_⟩) ⟨trivial, ⟨((unhide HS10).at 5 rfl).ub.c 0 _ rfl, ((unhide HS10).at 3 rfl).ub.c 1 _ rfl, ((unhide HS10).at 2 rfl).ub.c 0 _ rfl⟩⟩ ?_
          · intro W' hW
            go_split_ands
            go_simp
          refine wpR_take7 (i := 8) (oi := _) (v := .agg #[.slice a9 l9 c9]) rfl (by kernel_rfl) (by kernel_rfl) (by kernel_rfl) (by kernel_rfl) (fun _ _ _ h => h) (Or.inl ⟨by rfl, ?_⟩) ⟨trivial, ⟨((unhide HS10).at 5 rfl).ub.c 0 _ rfl, ((unhide HS10).at 3 rfl).ub.c 1 _ rfl, ((unhide HS10).at 2 rfl).ub.c 0 _ rfl⟩⟩ ?_
          · intro W' hW
            go_split_ands
            go_simp
          refine wpR_take7 (i := 9) (oi := _) (v := .agg #[.slice a10 l10 c10]) rfl (by kernel_rfl) (by kernel_rfl) (by kernel_rfl) (by kernel_rfl) (fun _ _ _ h => h) (Or.inl ⟨by rfl, ?_⟩) ⟨trivial, ⟨((unhide HS10).at 5 rfl).ub.c 0 _ rfl, ((unhide HS10).at 3 rfl).ub.c 1 _ rfl, ((unhide HS10).at 2 rfl).ub.c 0 _ rfl⟩⟩ ?_
          · intro W' hW
            go_split_ands
            go_simp
          have u0 := ((unhide HS10).at 0 rfl).ub.c 0 _ rfl
          have u1 := ((unhide HS10).at 0 rfl).ub.f 0 (.slice none 0 0) rfl
          refine wpR_late (i := 12) (o := _) (by kernel_rfl) rfl rfl (by kernel_rfl) (fun K hK => ?_)
          go_simp
          clear u0 u1
          rw [((unhide HS10).at 0 rfl).set1]
          have HS11 := hide (((unhide HS10)).set (nz1 _ _ _) #[.slice a9 l9 c9])
          clear HS10
          generalize X26.setRow g11 #[.slice a9 l9 c9] = X27 at *
          refine hK _ _ (⟨((unhide HS11).at 5 rfl).ub.c 0 _ rfl, ((unhide HS11).at 3 rfl).ub.c 1 _ rfl, ((unhide HS11).at 2 rfl).ub.c 0 _ rfl⟩) ?_
          clear hK K
          have u0 := ((unhide HS11).at 1 rfl).ub.c 0 _ rfl
          have u1 := ((unhide HS11).at 1 rfl).ub.f 0 (.slice none 0 0) rfl
          refine wpR_late (i := 13) (o := _) (by kernel_rfl) rfl rfl (by kernel_rfl) (fun K hK => ?_)
          go_simp
          clear u0 u1
          rw [((unhide HS11).at 1 rfl).set1]
          have HS12 := hide (((unhide HS11).rot).set (nz1 _ _ _) #[.slice a10 l10 c10])
          clear HS11
          generalize X27.setRow g12 #[.slice a10 l10 c10] = X28 at *
          refine hK _ _ (⟨((unhide HS12).at 4 rfl).ub.c 0 _ rfl, ((unhide HS12).at 2 rfl).ub.c 1 _ rfl, ((unhide HS12).at 1 rfl).ub.c 0 _ rfl⟩) ?_
          clear hK K
          refine wpR_done (by kernel_rfl) ?_
          go_wp2_with fail
          go_meet
          exact ⟨g11, g12, a9, l9, c9, a10, l10, c10, rfl, rfl, hide (((unhide HS12).rot.rot.rot.rot.rot.sw).no3)⟩
    · go_simp
      have HS7 := hide ((unhide HS6).new #[.slice none 0 0] 51)
      clear HS6
      generalize X0.alloc (.cells #[.slice none 0 0] 51) = X29 at *
      generalize X0.heap.size = g11 at *
      refine hK _ _ ⟨trivial, ⟨((unhide HS7).at 4 rfl).ub.c 0 _ rfl, ((unhide HS7).at 2 rfl).ub.c 1 _ rfl, ((unhide HS7).at 1 rfl).ub.c 0 _ rfl⟩⟩ ?_
      clear hK K
      refine wpR_two (i := 4) (j := 11) (by kernel_rfl) rfl rfl rfl rfl (fun K hK => ?_) (fun K hK => ?_) 
      · go_simp
        refine (mulB _ _ tt D (tt * D) k _ ((unhide HS7).bgt 6 rfl) ((unhide HS7).bgt 1 rfl) (by have := unhide HK; omega) (unhide HL).1 (unhide HL).2.2.2.2.1 rfl).mono ?_
        rintro e X30 ⟨a8, l8, c8, rfl, hv, hb⟩
        have HS8 := hide (((unhide HS7).later hb).push hv)
        clear HS7
        clear hv hb
        refine hK _ _ ⟨trivial, ⟨((unhide HS8).at 4 rfl).ub.c 0 _ rfl, ((unhide HS8).at 2 rfl).ub.c 1 _ rfl, ((unhide HS8).at 1 rfl).ub.c 0 _ rfl⟩⟩ ?_
        clear hK K
        refine wpR_two (i := 6) (j := 11) (by kernel_rfl) rfl rfl rfl rfl (fun K hK => ?_) (fun K hK => ?_) 
        · go_simp
          refine (divModB _ _ (tt * D) (den * 1) (k + k) _ ((unhide HS8).bgt 0 rfl) ((unhide HS8).bgt 1 rfl) (unhide HK2).1 (unhide HK2).2.1 (unhide HK2).2.2).mono ?_
          rintro e X31 ⟨a9, l9, c9, a10, l10, c10, rfl, hv1, hv2, hb⟩
          have HS9 := hide ((((unhide HS8).later hb).push hv1).push hv2)
          clear HS8
          clear hv1 hv2 hb
          refine hK _ _ ⟨trivial, ⟨((unhide HS9).at 4 rfl).ub.c 0 _ rfl, ((unhide HS9).at 2 rfl).ub.c 1 _ rfl, ((unhide HS9).at 1 rfl).ub.c 0 _ rfl⟩⟩ ?_
          clear hK K
          refine wpR_take7 (i := 7) (oi := _) (v := .tuple #[.agg #[.slice a9 l9 c9], .agg #[.slice a10 l10 c10]]) rfl (by kernel_rfl) (by kernel_rfl) (by kernel_rfl) (by kernel_rfl) (fun _ _ _ h => h) (Or.inl ⟨by rfl, ?_⟩) ⟨trivial, ⟨((unhide HS9).at 4 rfl).ub.c 0 _ rfl, ((unhide HS9).at 2 rfl).ub.c 1 _ rfl, ((unhide HS9).at 1 rfl).ub.c 0 _ rfl⟩⟩ ?_
          · intro W' hW
            go_split_ands
            go_simp
          refine wpR_take7 (i := 8) (oi := _) (v := .agg #[.slice a9 l9 c9]) rfl (by kernel_rfl) (by kernel_rfl) (by kernel_rfl) (by kernel_rfl) (fun _ _ _ h => h) (Or.inl ⟨by rfl, ?_⟩) ⟨trivial, ⟨((unhide HS9).at 4 rfl).ub.c 0 _ rfl, ((unhide HS9).at 2 rfl).ub.c 1 _ rfl, ((unhide HS9).at 1 rfl).ub.c 0 _ rfl⟩⟩ ?_
          · intro W' hW
            go_split_ands
            go_simp
          refine wpR_take7 (i := 9) (oi := _) (v := .agg #[.slice a10 l10 c10]) rfl (by kernel_rfl) (by kernel_rfl) (by kernel_rfl) (by kernel_rfl) (fun _ _ _ h => h) (Or.inl ⟨by rfl, ?_⟩) ⟨trivial, ⟨((unhide HS9).at 4 rfl).ub.c 0 _ rfl, ((unhide HS9).at 2 rfl).ub.c 1 _ rfl, ((unhide HS9).at 1 rfl).ub.c 0 _ rfl⟩⟩ ?_
          · intro W' hW
            go_split_ands
            go_simp
          refine wpR_op (i := 11) (o := _) (by kernel_rfl) rfl rfl (fun K hK => ?_)
          go_simp
          have HS10 := hide ((unhide HS9).new #[.slice none 0 0] 51)
          clear HS9
          generalize X31.alloc (.cells #[.slice none 0 0] 51) = X32 at *
          generalize X31.heap.size = g12 at *
          refine hK _ _ ⟨trivial, ⟨((unhide HS10).at 5 rfl).ub.c 0 _ rfl, ((unhide HS10).at 3 rfl).ub.c 1 _ rfl, ((unhide HS10).at 2 rfl).ub.c 0 _ rfl⟩⟩ ?_
          clear hK K
          have u0 := ((unhide HS10).at 1 rfl).ub.c 0 _ rfl
          have u1 := ((unhide HS10).at 1 rfl).ub.f 0 (.slice none 0 0) rfl
          refine wpR_late (i := 12) (o := _) (by kernel_rfl) rfl rfl (by kernel_rfl) (fun K hK => ?_)
          go_simp
          clear u0 u1
          rw [((unhide HS10).at 1 rfl).set1]
          have HS11 := hide (((unhide HS10).rot).set (nz1 _ _ _) #[.slice a9 l9 c9])
          clear HS10
          generalize X32.setRow g11 #[.slice a9 l9 c9] = X33 at *
          refine hK _ _ (⟨((unhide HS11).at 4 rfl).ub.c 0 _ rfl, ((unhide HS11).at 2 rfl).ub.c 1 _ rfl, ((unhide HS11).at 1 rfl).ub.c 0 _ rfl⟩) ?_
          clear hK K
          have u0 := ((unhide HS11).at 5 rfl).ub.c 0 _ rfl
          have u1 := ((unhide HS11).at 5 rfl).ub.f 0 (.slice none 0 0) rfl
          refine wpR_late (i := 13) (o := _) (by kernel_rfl) rfl rfl (by kernel_rfl) (fun K hK => ?_)
          go_simp
          clear u0 u1
          rw [((unhide HS11).at 5 rfl).set1]
          have HS12 := hide (((unhide HS11).rot.rot.rot.rot.rot).set (nz1 _ _ _) #[.slice a10 l10 c10])
          clear HS11
          generalize X33.setRow g12 #[.slice a10 l10 c10] = X34 at *
          refine hK _ _ (⟨((unhide HS12).at 5 rfl).ub.c 0 _ rfl, ((unhide HS12).at 3 rfl).ub.c 1 _ rfl, ((unhide HS12).at 2 rfl).ub.c 0 _ rfl⟩) ?_
          clear hK K
          refine wpR_done (by kernel_rfl) ?_
          go_wp2_with fail
          go_meet
          exact ⟨g11, g12, a9, l9, c9, a10, l10, c10, rfl, rfl, hide (((unhide HS12)).no3)⟩
        · go_simp
          have HS9 := hide ((unhide HS8).new #[.slice none 0 0] 51)
          clear HS8
          generalize X30.alloc (.cells #[.slice none 0 0] 51) = X35 at *
          generalize X30.heap.size = g12 at *
          refine hK _ _ ⟨trivial, ⟨((unhide HS9).at 5 rfl).ub.c 0 _ rfl, ((unhide HS9).at 3 rfl).ub.c 1 _ rfl, ((unhide HS9).at 2 rfl).ub.c 0 _ rfl⟩⟩ ?_
          clear hK K
          refine wpR_op (i := 6) (o := _) (by kernel_rfl) rfl rfl (fun K hK => ?_)
          go_simp
          refine (divModB _ _ (tt * D) (den * 1) (k + k) _ ((unhide HS9).bgt 0 rfl) ((unhide HS9).bgt 1 rfl) (unhide HK2).1 (unhide HK2).2.1 (unhide HK2).2.2).mono ?_
          rintro e X36 ⟨a9, l9, c9, a10, l10, c10, rfl, hv1, hv2, hb⟩
          have HS10 := hide ((((unhide HS9).later hb).push hv1).push hv2)
          clear HS9
          clear hv1 hv2 hb
          refine hK _ _ ⟨trivial, ⟨((unhide HS10).at 5 rfl).ub.c 0 _ rfl, ((unhide HS10).at 3 rfl).ub.c 1 _ rfl, ((unhide HS10).at 2 rfl).ub.c 0 _ rfl⟩⟩ ?_
          clear hK K
          refine wpR_take7 (i := 7) (oi := _) (v := .tuple #[.agg #[.slice a9 l9 c9], .agg #[.slice a10 l10 c10]]) rfl (by kernel_rfl) (by kernel_rfl) (by kernel_rfl) (by kernel_rfl) (fun _ _ _ h => h) (Or.inl ⟨by rfl, ?_⟩) ⟨trivial, ⟨((unhide HS10).at 5 rfl).ub.c 0 _ rfl, ((unhide HS10).at 3 rfl).ub.c 1 _ rfl, ((unhide HS10).at 2 rfl).ub.c 0 _ rfl⟩⟩ ?_
          · intro W' hW
            go_split_ands
            go_simp
          refine wpR_take7 (i := 8) (oi := _) (v := .agg #[.slice a9 l9 c9]) rfl (by kernel_rfl) (by kernel_rfl) (by kernel_rfl) (by kernel_rfl) (fun _ _ _ h => h) (Or.inl ⟨by rfl, ?_⟩) ⟨trivial, ⟨((unhide HS10).at 5 rfl).ub.c 0 _ rfl, ((unhide HS10).at 3 rfl).ub.c 1 _ rfl, ((unhide HS10).at 2 rfl).ub.c 0 _ rfl⟩⟩ ?_
          · intro W' hW
            go_split_ands
            go_simp
          refine wpR_take7 (i := 9) (oi := _) (v := .agg #[.slice a10 l10 c10]) rfl (by kernel_rfl) (by kernel_rfl) (by kernel_rfl) (by kernel_rfl) (fun _ _ _ h => h) (Or.inl ⟨by rfl, ?_⟩) ⟨trivial, ⟨((unhide HS10).at 5 rfl).ub.c 0 _ rfl, ((unhide HS10).at 3 rfl).ub.c 1 _ rfl, ((unhide HS10).at 2 rfl).ub.c 0 _ rfl⟩⟩ ?_
          · intro W' hW
            go_split_ands
            go_simp
          have u0 := ((unhide HS10).at 1 rfl).ub.c 0 _ rfl
          have u1 := ((unhide HS10).at 1 rfl).ub.f 0 (.slice none 0 0) rfl
          refine wpR_late (i := 12) (o := _) (by kernel_rfl) rfl rfl (by kernel_rfl) (fun K hK => ?_)
          go_simp
          clear u0 u1
          rw [((unhide HS10).at 1 rfl).set1]
          have HS11 := hide (((unhide HS10).rot).set (nz1 _ _ _) #[.slice a9 l9 c9])
          clear HS10
          generalize X36.setRow g11 #[.slice a9 l9 c9] = X37 at *
          refine hK _ _ (⟨((unhide HS11).at 4 rfl).ub.c 0 _ rfl, ((unhide HS11).at 2 rfl).ub.c 1 _ rfl, ((unhide HS11).at 1 rfl).ub.c 0 _ rfl⟩) ?_
          clear hK K
          have u0 := ((unhide HS11).at 5 rfl).ub.c 0 _ rfl
          have u1 := ((unhide HS11).at 5 rfl).ub.f 0 (.slice none 0 0) rfl
          refine wpR_late (i := 13) (o := _) (by kernel_rfl) rfl rfl (by kernel_rfl) (fun K hK => ?_)
          go_simp
          clear u0 u1
          rw [((unhide HS11).at 5 rfl).set1]
          have HS12 := hide (((unhide HS11).rot.rot.rot.rot.rot).set (nz1 _ _ _) #[.slice a10 l10 c10])
          clear HS11
          generalize X37.setRow g12 #[.slice a10 l10 c10] = X38 at *
          refine hK _ _ (⟨((unhide HS12).at 5 rfl).ub.c 0 _ rfl, ((unhide HS12).at 3 rfl).ub.c 1 _ rfl, ((unhide HS12).at 2 rfl).ub.c 0 _ rfl⟩) ?_
          clear hK K
          refine wpR_done (by kernel_rfl) ?_
          go_wp2_with fail
          go_meet
          exact ⟨g11, g12, a9, l9, c9, a10, l10, c10, rfl, rfl, hide (((unhide HS12)).no3)⟩
      · go_simp
        have HS8 := hide ((unhide HS7).new #[.slice none 0 0] 51)
        clear HS7
        generalize X29.alloc (.cells #[.slice none 0 0] 51) = X39 at *
        generalize X29.heap.size = g12 at *
        refine hK _ _ ⟨trivial, ⟨((unhide HS8).at 5 rfl).ub.c 0 _ rfl, ((unhide HS8).at 3 rfl).ub.c 1 _ rfl, ((unhide HS8).at 2 rfl).ub.c 0 _ rfl⟩⟩ ?_
        clear hK K
        refine wpR_op (i := 4) (o := _) (by kernel_rfl) rfl rfl (fun K hK => ?_)
        go_simp
        refine (mulB _ _ tt D (tt * D) k _ ((unhide HS8).bgt 6 rfl) ((unhide HS8).bgt 1 rfl) (by have := unhide HK; omega) (unhide HL).1 (unhide HL).2.2.2.2.1 rfl).mono ?_
        rintro e X40 ⟨a8, l8, c8, rfl, hv, hb⟩
        have HS9 := hide (((unhide HS8).later hb).push hv)
        clear HS8
        clear hv hb
        refine hK _ _ ⟨trivial, ⟨((unhide HS9).at 5 rfl).ub.c 0 _ rfl, ((unhide HS9).at 3 rfl).ub.c 1 _ rfl, ((unhide HS9).at 2 rfl).ub.c 0 _ rfl⟩⟩ ?_
        clear hK K
        refine wpR_op (i := 6) (o := _) (by kernel_rfl) rfl rfl (fun K hK => ?_)
        go_simp
        refine (divModB _ _ (tt * D) (den * 1) (k + k) _ ((unhide HS9).bgt 0 rfl) ((unhide HS9).bgt 1 rfl) (unhide HK2).1 (unhide HK2).2.1 (unhide HK2).2.2).mono ?_
        rintro e X41 ⟨a9, l9, c9, a10, l10, c10, rfl, hv1, hv2, hb⟩
        have HS10 := hide ((((unhide HS9).later hb).push hv1).push hv2)
        clear HS9
        clear hv1 hv2 hb
        refine hK _ _ ⟨trivial, ⟨((unhide HS10).at 5 rfl).ub.c 0 _ rfl, ((unhide HS10).at 3 rfl).ub.c 1 _ rfl, ((unhide HS10).at 2 rfl).ub.c 0 _ rfl⟩⟩ ?_
        clear hK K
        refine wpR_take7 (i := 7) (oi := _) (v := .tuple #[.agg #[.slice a9 l9 c9], .agg #[.slice a10 l10 c10]]) rfl (by kernel_rfl) (by kernel_rfl) (by kernel_rfl) (by kernel_rfl) (fun _ _ _ h => h) (Or.inl ⟨by rfl, ?_⟩) ⟨trivial, ⟨((unhide HS10).at 5 rfl).ub.c 0 _ rfl, ((unhide HS10).at 3 rfl).ub.c 1 _ rfl, ((unhide HS10).at 2 rfl).ub.c 0 _ rfl⟩⟩ ?_
        · intro W' hW
          go_split_ands
          go_simp
        refine wpR_take7 (i := 8) (oi := _) (v := .agg #[.slice a9 l9 c9]) rfl (by kernel_rfl) (by kernel_rfl) (by kernel_rfl) (by kernel_rfl) (fun _ _ _ h => h) (Or.inl ⟨by rfl, ?_⟩) ⟨trivial, ⟨((unhide HS10).at 5 rfl).ub.c 0 _ rfl, ((unhide HS10).at 3 rfl).ub.c 1 _ rfl, ((unhide HS10).at 2 rfl).ub.c 0 _ rfl⟩⟩ ?_
        · intro W' hW
          go_split_ands
          go_simp
        refine wpR_take7 (i := 9) (oi := _) (v := .agg #[.slice a10 l10 c10]) rfl (by kernel_rfl) (by kernel_rfl) (by kernel_rfl) (by kernel_rfl) (fun _ _ _ h => h) (Or.inl ⟨by rfl, ?_⟩) ⟨trivial, ⟨((unhide HS10).at 5 rfl).ub.c 0 _ rfl, ((unhide HS10).at 3 rfl).ub.c 1 _ rfl, ((unhide HS10).at 2 rfl).ub.c 0 _ rfl⟩⟩ ?_
        · intro W' hW
          go_split_ands
          go_simp
        have u0 := ((unhide HS10).at 1 rfl).ub.c 0 _ rfl
        have u1 := ((unhide HS10).at 1 rfl).ub.f 0 (.slice none 0 0) rfl
        refine wpR_late (i := 12) (o := _) (by kernel_rfl) rfl rfl (by kernel_rfl) (fun K hK => ?_)
        go_simp
        clear u0 u1
        rw [((unhide HS10).at 1 rfl).set1]
        have HS11 := hide (((unhide HS10).rot).set (nz1 _ _ _) #[.slice a9 l9 c9])
        clear HS10
        generalize X41.setRow g11 #[.slice a9 l9 c9] = X42 at *
        refine hK _ _ (⟨((unhide HS11).at 4 rfl).ub.c 0 _ rfl, ((unhide HS11).at 2 rfl).ub.c 1 _ rfl, ((unhide HS11).at 1 rfl).ub.c 0 _ rfl⟩) ?_
        clear hK K
        have u0 := ((unhide HS11).at 5 rfl).ub.c 0 _ rfl
        have u1 := ((unhide HS11).at 5 rfl).ub.f 0 (.slice none 0 0) rfl
        refine wpR_late (i := 13) (o := _) (by kernel_rfl) rfl rfl (by kernel_rfl) (fun K hK => ?_)
        go_simp
        clear u0 u1
        rw [((unhide HS11).at 5 rfl).set1]
        have HS12 := hide (((unhide HS11).rot.rot.rot.rot.rot).set (nz1 _ _ _) #[.slice a10 l10 c10])
        clear HS11
        generalize X42.setRow g12 #[.slice a10 l10 c10] = X43 at *
        refine hK _ _ (⟨((unhide HS12).at 5 rfl).ub.c 0 _ rfl, ((unhide HS12).at 3 rfl).ub.c 1 _ rfl, ((unhide HS12).at 2 rfl).ub.c 0 _ rfl⟩) ?_
        clear hK K
        refine wpR_done (by kernel_rfl) ?_
        go_wp2_with fail
        go_meet
        exact ⟨g11, g12, a9, l9, c9, a10, l10, c10, rfl, rfl, hide (((unhide HS12)).no3)⟩
    · go_simp
      have HS7 := hide ((unhide HS6).new #[.slice none 0 0] 51)
      clear HS6
      generalize X0.alloc (.cells #[.slice none 0 0] 51) = X44 at *
      generalize X0.heap.size = g12 at *
      refine hK _ _ ⟨trivial, ⟨((unhide HS7).at 4 rfl).ub.c 0 _ rfl, ((unhide HS7).at 2 rfl).ub.c 1 _ rfl, ((unhide HS7).at 1 rfl).ub.c 0 _ rfl⟩⟩ ?_
      clear hK K
      refine wpR_two (i := 4) (j := 10) (by kernel_rfl) rfl rfl rfl rfl (fun K hK => ?_) (fun K hK => ?_) 
      · go_simp
        refine (mulB _ _ tt D (tt * D) k _ ((unhide HS7).bgt 6 rfl) ((unhide HS7).bgt 1 rfl) (by have := unhide HK; omega) (unhide HL).1 (unhide HL).2.2.2.2.1 rfl).mono ?_
        rintro e X45 ⟨a8, l8, c8, rfl, hv, hb⟩
        have HS8 := hide (((unhide HS7).later hb).push hv)
        clear HS7
        clear hv hb
        refine hK _ _ ⟨trivial, ⟨((unhide HS8).at 4 rfl).ub.c 0 _ rfl, ((unhide HS8).at 2 rfl).ub.c 1 _ rfl, ((unhide HS8).at 1 rfl).ub.c 0 _ rfl⟩⟩ ?_
        clear hK K
        refine wpR_two (i := 6) (j := 10) (by kernel_rfl) rfl rfl rfl rfl (fun K hK => ?_) (fun K hK => ?_) 
        · go_simp
          refine (divModB _ _ (tt * D) (den * 1) (k + k) _ ((unhide HS8).bgt 0 rfl) ((unhide HS8).bgt 1 rfl) (unhide HK2).1 (unhide HK2).2.1 (unhide HK2).2.2).mono ?_
          rintro e X46 ⟨a9, l9, c9, a10, l10, c10, rfl, hv1, hv2, hb⟩
          have HS9 := hide ((((unhide HS8).later hb).push hv1).push hv2)
          clear HS8
          clear hv1 hv2 hb
          refine hK _ _ ⟨trivial, ⟨((unhide HS9).at 4 rfl).ub.c 0 _ rfl, ((unhide HS9).at 2 rfl).ub.c 1 _ rfl, ((unhide HS9).at 1 rfl).ub.c 0 _ rfl⟩⟩ ?_
          clear hK K
          refine wpR_take7 (i := 7) (oi := _) (v := .tuple #[.agg #[.slice a9 l9 c9], .agg #[.slice a10 l10 c10]]) rfl (by kernel_rfl) (by kernel_rfl) (by kernel_rfl) (by kernel_rfl) (fun _ _ _ h => h) (Or.inl ⟨by rfl, ?_⟩) ⟨trivial, ⟨((unhide HS9).at 4 rfl).ub.c 0 _ rfl, ((unhide HS9).at 2 rfl).ub.c 1 _ rfl, ((unhide HS9).at 1 rfl).ub.c 0 _ rfl⟩⟩ ?_
          · intro W' hW
            go_split_ands
            go_simp
          refine wpR_take7 (i := 8) (oi := _) (v := .agg #[.slice a9 l9 c9]) rfl (by kernel_rfl) (by kernel_rfl) (by kernel_rfl) (by kernel_rfl) (fun _ _ _ h => h) (Or.inl ⟨by rfl, ?_⟩) ⟨trivial, ⟨((unhide HS9).at 4 rfl).ub.c 0 _ rfl, ((unhide HS9).at 2 rfl).ub.c 1 _ rfl, ((unhide HS9).at 1 rfl).ub.c 0 _ rfl⟩⟩ ?_
          · intro W' hW
            go_split_ands
            go_simp
          refine wpR_take7 (i := 9) (oi := _) (v := .agg #[.slice a10 l10 c10]) rfl (by kernel_rfl) (by kernel_rfl) (by kernel_rfl) (by kernel_rfl) (fun _ _ _ h => h) (Or.inl ⟨by rfl, ?_⟩) ⟨trivial, ⟨((unhide HS9).at 4 rfl).ub.c 0 _ rfl, ((unhide HS9).at 2 rfl).ub.c 1 _ rfl, ((unhide HS9).at 1 rfl).ub.c 0 _ rfl⟩⟩ ?_
          · intro W' hW
            go_split_ands
            go_simp
          refine wpR_op (i := 10) (o := _) (by kernel_rfl) rfl rfl (fun K hK => ?_)
          go_simp
          have HS10 := hide ((unhide HS9).new #[.slice none 0 0] 51)
          clear HS9
          generalize X46.alloc (.cells #[.slice none 0 0] 51) = X47 at *
          generalize X46.heap.size = g11 at *
          refine hK _ _ ⟨trivial, ⟨((unhide HS10).at 5 rfl).ub.c 0 _ rfl, ((unhide HS10).at 3 rfl).ub.c 1 _ rfl, ((unhide HS10).at 2 rfl).ub.c 0 _ rfl⟩⟩ ?_
          clear hK K
          have u0 := ((unhide HS10).at 0 rfl).ub.c 0 _ rfl
          have u1 := ((unhide HS10).at 0 rfl).ub.f 0 (.slice none 0 0) rfl
          refine wpR_late (i := 12) (o := _) (by kernel_rfl) rfl rfl (by kernel_rfl) (fun K hK => ?_)
          go_simp
          clear u0 u1
          rw [((unhide HS10).at 0 rfl).set1]
          have HS11 := hide (((unhide HS10)).set (nz1 _ _ _) #[.slice a9 l9 c9])
          clear HS10
          generalize X47.setRow g11 #[.slice a9 l9 c9] = X48 at *
          refine hK _ _ (⟨((unhide HS11).at 5 rfl).ub.c 0 _ rfl, ((unhide HS11).at 3 rfl).ub.c 1 _ rfl, ((unhide HS11).at 2 rfl).ub.c 0 _ rfl⟩) ?_
          clear hK K
          have u0 := ((unhide HS11).at 1 rfl).ub.c 0 _ rfl
          have u1 := ((unhide HS11).at 1 rfl).ub.f 0 (.slice none 0 0) rfl
          refine wpR_late (i := 13) (o := _) (by kernel_rfl) rfl rfl (by kernel_rfl) (fun K hK => ?_)
          go_simp
          clear u0 u1
          rw [((unhide HS11).at 1 rfl).set1]
          have HS12 := hide (((unhide HS11).rot).set (nz1 _ _ _) #[.slice a10 l10 c10])
          clear HS11
          generalize X48.setRow g12 #[.slice a10 l10 c10] = X49 at *
          refine hK _ _ (⟨((unhide HS12).at 4 rfl).ub.c 0 _ rfl, ((unhide HS12).at 2 rfl).ub.c 1 _ rfl, ((unhide HS12).at 1 rfl).ub.c 0 _ rfl⟩) ?_
          clear hK K
          refine wpR_done (by kernel_rfl) ?_
          go_wp2_with fail
          go_meet
          exact ⟨g11, g12, a9, l9, c9, a10, l10, c10, rfl, rfl, hide (((unhide HS12).rot.rot.rot.rot.rot.sw).no3)⟩
        · go_simp
          have HS9 := hide ((unhide HS8).new #[.slice none 0 0] 51)
          clear HS8
          generalize X45.alloc (.cells #[.slice none 0 0] 51) = X50 at *
          generalize X45.heap.size = g11 at *
          refine hK _ _ ⟨trivial, ⟨((unhide HS9).at 5 rfl).ub.c 0 _ rfl, ((unhide HS9).at 3 rfl).ub.c 1 _ rfl, ((unhide HS9).at 2 rfl).ub.c 0 _ rfl⟩⟩ ?_
          clear hK K
          refine wpR_op (i := 6) (o := _) (by kernel_rfl) rfl rfl (fun K hK => ?_)
          go_simp
          refine (divModB _ _ (tt * D) (den * 1) (k + k) _ ((unhide HS9).bgt 0 rfl) ((unhide HS9).bgt 1 rfl) (unhide HK2).1 (unhide HK2).2.1 (unhide HK2).2.2).mono ?_
          rintro e X51 ⟨a9, l9, c9, a10, l10, c10, rfl, hv1, hv2, hb⟩
          have HS10 := hide ((((unhide HS9).later hb).push hv1).push hv2)
          clear HS9
          clear hv1 hv2 hb
          refine hK _ _ ⟨trivial, ⟨((unhide HS10).at 5 rfl).ub.c 0 _ rfl, ((unhide HS10).at 3 rfl).ub.c 1 _ rfl, ((unhide HS10).at 2 rfl).ub.c 0 _ rfl⟩⟩ ?_
          clear hK K
          refine wpR_take7 (i := 7) (oi := _) (v := .tuple #[.agg #[.slice a9 l9 c9], .agg #[.slice a10 l10 c10]]) rfl (by kernel_rfl) (by kernel_rfl) (by kernel_rfl) (by kernel_rfl) (fun _ _ _ h => h) (Or.inl ⟨by rfl, ?_⟩) ⟨trivial, ⟨((unhide HS10).at 5 rfl).ub.c 0 _ rfl, ((unhide HS10).at 3 rfl).ub.c 1 _ rfl, ((unhide HS10).at 2 rfl).ub.c 0 _ rfl⟩⟩ ?_
          · intro W' hW
            go_split_ands
            go_simp
          refine wpR_take7 (i := 8) (oi := _) (v := .agg #[.slice a9 l9 c9]) rfl (by kernel_rfl) (by kernel_rfl) (by kernel_rfl) (by kernel_rfl) (fun _ _ _ h => h) (Or.inl ⟨by rfl, ?_⟩) ⟨trivial, ⟨((unhide HS10).at 5 rfl).ub.c 0 _ rfl, ((unhide HS10).at 3 rfl).ub.c 1 _ rfl, ((unhide HS10).at 2 rfl).ub.c 0 _ rfl⟩⟩ ?_
          · intro W' hW
            go_split_ands
            go_simp
          refine wpR_take7 (i := 9) (oi := _) (v := .agg #[.slice a10 l10 c10]) rfl (by kernel_rfl) (by kernel_rfl) (by kernel_rfl) (by kernel_rfl) (fun _ _ _ h => h) (Or.inl ⟨by rfl, ?_⟩) ⟨trivial, ⟨((unhide HS10).at 5 rfl).ub.c 0 _ rfl, ((unhide HS10).at 3 rfl).ub.c 1 _ rfl, ((unhide HS10).at 2 rfl).ub.c 0 _ rfl⟩⟩ ?_
          · intro W' hW
            go_split_ands
            go_simp
          have u0 := ((unhide HS10).at 0 rfl).ub.c 0 _ rfl
          have u1 := ((unhide HS10).at 0 rfl).ub.f 0 (.slice none 0 0) rfl
          refine wpR_late (i := 12) (o := _) (by kernel_rfl) rfl rfl (by kernel_rfl) (fun K hK => ?_)
          go_simp
          clear u0 u1
          rw [((unhide HS10).at 0 rfl).set1]
          have HS11 := hide (((unhide HS10)).set (nz1 _ _ _) #[.slice a9 l9 c9])
          clear HS10
          generalize X51.setRow g11 #[.slice a9 l9 c9] = X52 at *
          refine hK _ _ (⟨((unhide HS11).at 5 rfl).ub.c 0 _ rfl, ((unhide HS11).at 3 rfl).ub.c 1 _ rfl, ((unhide HS11).at 2 rfl).ub.c 0 _ rfl⟩) ?_
          clear hK K
          have u0 := ((unhide HS11).at 1 rfl).ub.c 0 _ rfl
          have u1 := ((unhide HS11).at 1 rfl).ub.f 0 (.slice none 0 0) rfl
          refine wpR_late (i := 13) (o := _) (by kernel_rfl) rfl rfl (by kernel_rfl) (fun K hK => ?_)
          go_simp
          clear u0 u1
          rw [((unhide HS11).at 1 rfl).set1]
          have HS12 := hide (((unhide HS11).rot).set (nz1 _ _ _) #[.slice a10 l10 c10])
          clear HS11
          generalize X52.setRow g12 #[.slice a10 l10 c10] = X53 at *
          refine hK _ _ (⟨((unhide HS12).at 4 rfl).ub.c 0 _ rfl, ((unhide HS12).at 2 rfl).ub.c 1 _ rfl, ((unhide HS12).at 1 rfl).ub.c 0 _ rfl⟩) ?_
          clear hK K
          refine wpR_done (by kernel_rfl) ?_
          go_wp2_with fail
          go_meet
          exact ⟨g11, g12, a9, l9, c9, a10, l10, c10, rfl, rfl, hide (((unhide HS12).rot.rot.rot.rot.rot.sw).no3)⟩
      · go_simp
        have HS8 := hide ((unhide HS7).new #[.slice none 0 0] 51)
        clear HS7
        generalize X44.alloc (.cells #[.slice none 0 0] 51) = X54 at *
        generalize X44.heap.size = g11 at *
        refine hK _ _ ⟨trivial, ⟨((unhide HS8).at 5 rfl).ub.c 0 _ rfl, ((unhide HS8).at 3 rfl).ub.c 1 _ rfl, ((unhide HS8).at 2 rfl).ub.c 0 _ rfl⟩⟩ ?_
        clear hK K
        refine wpR_op (i := 4) (o := _) (by kernel_rfl) rfl rfl (fun K hK => ?_)
        go_simp
        refine (mulB _ _ tt D (tt * D) k _ ((unhide HS8).bgt 6 rfl) ((unhide HS8).bgt 1 rfl) (by have := unhide HK; omega) (unhide HL).1 (unhide HL).2.2.2.2.1 rfl).mono ?_
        rintro e X55 ⟨a8, l8, c8, rfl, hv, hb⟩
        have HS9 := hide (((unhide HS8).later hb).push hv)
        clear HS8
        clear hv hb
        refine hK _ _ ⟨trivial, ⟨((unhide HS9).at 5 rfl).ub.c 0 _ rfl, ((unhide HS9).at 3 rfl).ub.c 1 _ rfl, ((unhide HS9).at 2 rfl).ub.c 0 _ rfl⟩⟩ ?_
        clear hK K
        refine wpR_op (i := 6) (o := _) (by kernel_rfl) rfl rfl (fun K hK => ?_)
        go_simp
        refine (divModB _ _ (tt * D) (den * 1) (k + k) _ ((unhide HS9).bgt 0 rfl) ((unhide HS9).bgt 1 rfl) (unhide HK2).1 (unhide HK2).2.1 (unhide HK2).2.2).mono ?_
        rintro e X56 ⟨a9, l9, c9, a10, l10, c10, rfl, hv1, hv2, hb⟩
        have HS10 := hide ((((unhide HS9).later hb).push hv1).push hv2)
        clear HS9
        clear hv1 hv2 hb
        refine hK _ _ ⟨trivial, ⟨((unhide HS10).at 5 rfl).ub.c 0 _ rfl, ((unhide HS10).at 3 rfl).ub.c 1 _ rfl, ((unhide HS10).at 2 rfl).ub.c 0 _ rfl⟩⟩ ?_
        clear hK K
        refine wpR_take7 (i := 7) (oi := _) (v := .tuple #[.agg #[.slice a9 l9 c9], .agg #[.slice a10 l10 c10]]) rfl (by kernel_rfl) (by kernel_rfl) (by kernel_rfl) (by kernel_rfl) (fun _ _ _ h => h) (Or.inl ⟨by rfl, ?_⟩) ⟨trivial, ⟨((unhide HS10).at 5 rfl).ub.c 0 _ rfl, ((unhide HS10).at 3 rfl).ub.c 1 _ rfl, ((unhide HS10).at 2 rfl).ub.c 0 _ rfl⟩⟩ ?_
        · intro W' hW
          go_split_ands
          go_simp
        refine wpR_take7 (i := 8) (oi := _) (v := .agg #[.slice a9 l9 c9]) rfl (by kernel_rfl) (by kernel_rfl) (by kernel_rfl) (by kernel_rfl) (fun _ _ _ h => h) (Or.inl ⟨by rfl, ?_⟩) ⟨trivial, ⟨((unhide HS10).at 5 rfl).ub.c 0 _ rfl, ((unhide HS10).at 3 rfl).ub.c 1 _ rfl, ((unhide HS10).at 2 rfl).ub.c 0 _ rfl⟩⟩ ?_
        · intro W' hW
          go_split_ands
          go_simp
        refine wpR_take7 (i := 9) (oi := _) (v := .agg #[.slice a10 l10 c10]) rfl (by kernel_rfl) (by kernel_rfl) (by kernel_rfl) (by kernel_rfl) (fun _ _ _ h => h) (Or.inl ⟨by rfl, ?_⟩) ⟨trivial, ⟨((unhide HS10).at 5 rfl).ub.c 0 _ rfl, ((unhide HS10).at 3 rfl).ub.c 1 _ rfl, ((unhide HS10).at 2 rfl).ub.c 0 _ rfl⟩⟩ ?_
        · intro W' hW
          go_split_ands
          go_simp
        have u0 := ((unhide HS10).at 0 rfl).ub.c 0 _ rfl
        have u1 := ((unhide HS10).at 0 rfl).ub.f 0 (.slice none 0 0) rfl
        refine wpR_late (i := 12) (o := _) (by kernel_rfl) rfl rfl (by kernel_rfl) (fun K hK => ?_)
        go_simp
        clear u0 u1
        rw [((unhide HS10).at 0 rfl).set1]
        have HS11 := hide (((unhide HS10)).set (nz1 _ _ _) #[.slice a9 l9 c9])
        clear HS10
        generalize X56.setRow g11 #[.slice a9 l9 c9] = X57 at *
        refine hK _ _ (⟨((unhide HS11).at 5 rfl).ub.c 0 _ rfl, ((unhide HS11).at 3 rfl).ub.c 1 _ rfl, ((unhide HS11).at 2 rfl).ub.c 0 _ rfl⟩) ?_
        clear hK K
        have u0 := ((unhide HS11).at 1 rfl).ub.c 0 _ rfl
        have u1 := ((unhide HS11).at 1 rfl).ub.f 0 (.slice none 0 0) rfl
        refine wpR_late (i := 13) (o := _) (by kernel_rfl) rfl rfl (by kernel_rfl) (fun K hK => ?_)
        go_simp
        clear u0 u1
        rw [((unhide HS11).at 1 rfl).set1]
        have HS12 := hide (((unhide HS11).rot).set (nz1 _ _ _) #[.slice a10 l10 c10])
        clear HS11
        generalize X57.setRow g12 #[.slice a10 l10 c10] = X58 at *
        refine hK _ _ (⟨((unhide HS12).at 4 rfl).ub.c 0 _ rfl, ((unhide HS12).at 2 rfl).ub.c 1 _ rfl, ((unhide HS12).at 1 rfl).ub.c 0 _ rfl⟩) ?_
        clear hK K
        refine wpR_done (by kernel_rfl) ?_
        go_wp2_with fail
        go_meet
        exact ⟨g11, g12, a9, l9, c9, a10, l10, c10, rfl, rfl, hide (((unhide HS12).rot.rot.rot.rot.rot.sw).no3)⟩
  case rest =>
    obtain ⟨g11, g12, a9, l9, c9, a10, l10, c10, rfl, rfl, HS0⟩ := hcut
    generalize wc = Y0 at *
    have u0 := ((unhide HS0).at 2 rfl).ub.c 0 _ rfl
    have u1 := ((unhide HS0).at 0 rfl).ub.c 0 _ rfl
    go_upto_region 6 with (have hchk := HS0; clear hchk; go_at_call 162; go_must (refine (subB _ _ (den * 1) (tt * D % (den * 1)) k _ ((unhide HS0).bgt 2 rfl) ((unhide HS0).bgt 0 rfl) (by have := unhide HK; omega) (by rw [Nat.mul_one]; exact (unhide HL).2.2.2.1) (Nat.le_of_lt (Nat.mod_lt _ (unhide HK2).2.2))).mono ?_; rintro e Y1 ⟨a11, l11, c11, rfl, hv, hb⟩; have HS1 := hide (((unhide HS0).later hb).push hv); clear HS0; clear hv hb u0 u1))
    have HS2 := hide ((unhide HS1).new #[.slice a11 l11 c11] 51)
    clear HS1
    generalize Y1.alloc (.cells #[.slice a11 l11 c11] 51) = Y2 at *
    generalize Y1.heap.size = g13 at *
    refine region_reads 11 (fun _ => True) (fun W' => W'.cell? ⟨g12, 0, none⟩ = some (.slice a10 l10 c10) ∧ W'.cell? ⟨w.heap.size, 1, none⟩ = some (.slice a2 l2 c2) ∧ W'.cell? ⟨g13, 0, none⟩ = some (.slice a11 l11 c11) ∧ W'.cell? ⟨w.heap.size, 2, none⟩ = some (.slice a3 l3 c3)) 12 rfl (by kernel_rfl) ?_
    have HS3 := hide ((unhide HS2).later ((Below.refl _ _).drew))
    clear HS2
    generalize Y2.drew = Y3 at *
    refine wpR_take7 (i := 0) (oi := _) (v := .func (.func 160) #[] #[.pointer (some ⟨g8, 0, none⟩), .pointer (some ⟨w.heap.size, 0, none⟩)]) rfl (by kernel_rfl) (by kernel_rfl) (by kernel_rfl) (by kernel_rfl) (fun _ _ _ h => h) (Or.inl ⟨by rfl, ?_⟩) ⟨trivial, ⟨((unhide HS3).at 1 rfl).ub.c 0 _ rfl, ((unhide HS3).at 6 rfl).ub.c 1 _ rfl, ((unhide HS3).at 0 rfl).ub.c 0 _ rfl, ((unhide HS3).at 6 rfl).ub.c 2 _ rfl⟩⟩ ?_
    · intro W' hW
      go_split_ands
      go_simp
    refine wpR_take7 (i := 1) (oi := _) (v := .agg #[.slice a10 l10 c10]) rfl (by kernel_rfl) (by kernel_rfl) (by kernel_rfl) (by kernel_rfl) (fun _ _ _ h => h) (Or.inl ⟨by rfl, ?_⟩) ⟨trivial, ⟨((unhide HS3).at 1 rfl).ub.c 0 _ rfl, ((unhide HS3).at 6 rfl).ub.c 1 _ rfl, ((unhide HS3).at 0 rfl).ub.c 0 _ rfl, ((unhide HS3).at 6 rfl).ub.c 2 _ rfl⟩⟩ ?_
    · intro W' hW
      go_split_ands
      go_simp
    refine wpR_take7 (i := 2) (oi := _) (v := .pointer (some ⟨w.heap.size, 1, none⟩)) rfl (by kernel_rfl) (by kernel_rfl) (by kernel_rfl) (by kernel_rfl) (fun _ _ _ h => h) (Or.inl ⟨by rfl, ?_⟩) ⟨trivial, ⟨((unhide HS3).at 1 rfl).ub.c 0 _ rfl, ((unhide HS3).at 6 rfl).ub.c 1 _ rfl, ((unhide HS3).at 0 rfl).ub.c 0 _ rfl, ((unhide HS3).at 6 rfl).ub.c 2 _ rfl⟩⟩ ?_
    · intro W' hW
      go_split_ands
      go_simp
    refine wpR_take7 (i := 3) (oi := _) (v := .agg #[.slice a2 l2 c2]) rfl (by kernel_rfl) (by kernel_rfl) (by kernel_rfl) (by kernel_rfl) (fun _ _ _ h => h) (Or.inl ⟨by rfl, ?_⟩) ⟨trivial, ⟨((unhide HS3).at 1 rfl).ub.c 0 _ rfl, ((unhide HS3).at 6 rfl).ub.c 1 _ rfl, ((unhide HS3).at 0 rfl).ub.c 0 _ rfl, ((unhide HS3).at 6 rfl).ub.c 2 _ rfl⟩⟩ ?_
    · intro W' hW
      go_split_ands
      go_simp
    refine wpR_take7 (i := 5) (oi := _) (v := .func (.func 160) #[] #[.pointer (some ⟨g8, 0, none⟩), .pointer (some ⟨w.heap.size, 0, none⟩)]) rfl (by kernel_rfl) (by kernel_rfl) (by kernel_rfl) (by kernel_rfl) (fun _ _ _ h => h) (Or.inl ⟨by rfl, ?_⟩) ⟨trivial, ⟨((unhide HS3).at 1 rfl).ub.c 0 _ rfl, ((unhide HS3).at 6 rfl).ub.c 1 _ rfl, ((unhide HS3).at 0 rfl).ub.c 0 _ rfl, ((unhide HS3).at 6 rfl).ub.c 2 _ rfl⟩⟩ ?_
    · intro W' hW
      go_split_ands
      go_simp
    refine wpR_take7 (i := 6) (oi := _) (v := .agg #[.slice a11 l11 c11]) rfl (by kernel_rfl) (by kernel_rfl) (by kernel_rfl) (by kernel_rfl) (fun _ _ _ h => h) (Or.inl ⟨by rfl, ?_⟩) ⟨trivial, ⟨((unhide HS3).at 1 rfl).ub.c 0 _ rfl, ((unhide HS3).at 6 rfl).ub.c 1 _ rfl, ((unhide HS3).at 0 rfl).ub.c 0 _ rfl, ((unhide HS3).at 6 rfl).ub.c 2 _ rfl⟩⟩ ?_
    · intro W' hW
      go_split_ands
      go_simp
    refine wpR_take7 (i := 7) (oi := _) (v := .pointer (some ⟨w.heap.size, 2, none⟩)) rfl (by kernel_rfl) (by kernel_rfl) (by kernel_rfl) (by kernel_rfl) (fun _ _ _ h => h) (Or.inl ⟨by rfl, ?_⟩) ⟨trivial, ⟨((unhide HS3).at 1 rfl).ub.c 0 _ rfl, ((unhide HS3).at 6 rfl).ub.c 1 _ rfl, ((unhide HS3).at 0 rfl).ub.c 0 _ rfl, ((unhide HS3).at 6 rfl).ub.c 2 _ rfl⟩⟩ ?_
    · intro W' hW
      go_split_ands
      go_simp
    refine wpR_take7 (i := 8) (oi := _) (v := .agg #[.slice a3 l3 c3]) rfl (by kernel_rfl) (by kernel_rfl) (by kernel_rfl) (by kernel_rfl) (fun _ _ _ h => h) (Or.inl ⟨by rfl, ?_⟩) ⟨trivial, ⟨((unhide HS3).at 1 rfl).ub.c 0 _ rfl, ((unhide HS3).at 6 rfl).ub.c 1 _ rfl, ((unhide HS3).at 0 rfl).ub.c 0 _ rfl, ((unhide HS3).at 6 rfl).ub.c 2 _ rfl⟩⟩ ?_
    · intro W' hW
      go_split_ands
      go_simp
    refine wpR_op (i := 4) (o := _) (by kernel_rfl) rfl rfl (fun K hK => ?_)
    go_simp
    refine (within_yes _ _ _ _ _ _ _ _ _ _ _ _ (tt * D % (den * 1)) bl D k _ _ _ ((unhide HS3).bgt 1 rfl) ((unhide HS3).bgt 8 rfl) ((unhide HS3).bgt 4 rfl) ((unhide HS3).at 4 rfl) (by have := unhide HK; omega) (unhide HL).2.1 (unhide HL).2.2.2.2.1 (unhide HLOW)).mono ?_
    rintro e Y4 ⟨rfl, hb⟩
    have HS4 := hide ((unhide HS3).later hb)
    clear HS3
    clear hb
    refine hK _ _ ⟨trivial, ⟨((unhide HS4).at 1 rfl).ub.c 0 _ rfl, ((unhide HS4).at 6 rfl).ub.c 1 _ rfl, ((unhide HS4).at 0 rfl).ub.c 0 _ rfl, ((unhide HS4).at 6 rfl).ub.c 2 _ rfl⟩⟩ ?_
    clear hK K
    refine wpR_op (i := 9) (o := _) (by kernel_rfl) rfl rfl (fun K hK => ?_)
    go_simp
    refine (within_no _ _ _ _ _ _ _ _ _ _ _ _ (den * 1 - tt * D % (den * 1)) ab D k _ _ _ ((unhide HS4).bgt 0 rfl) ((unhide HS4).bgt 7 rfl) ((unhide HS4).bgt 4 rfl) ((unhide HS4).at 4 rfl) (by have := unhide HK; omega) (unhide HL).2.2.1 (unhide HL).2.2.2.2.1 (unhide HHIGH)).mono ?_
    rintro e Y5 ⟨rfl, hb⟩
    have HS5 := hide ((unhide HS4).later hb)
    clear HS4
    clear hb
    refine hK _ _ ⟨trivial, ⟨((unhide HS5).at 1 rfl).ub.c 0 _ rfl, ((unhide HS5).at 6 rfl).ub.c 1 _ rfl, ((unhide HS5).at 0 rfl).ub.c 0 _ rfl, ((unhide HS5).at 6 rfl).ub.c 2 _ rfl⟩⟩ ?_
    clear hK K
    refine wpR_op (i := 10) (o := _) (by kernel_rfl) rfl rfl (fun K hK => ?_)
    go_simp
    refine hK _ _ ⟨trivial, ⟨((unhide HS5).at 1 rfl).ub.c 0 _ rfl, ((unhide HS5).at 6 rfl).ub.c 1 _ rfl, ((unhide HS5).at 0 rfl).ub.c 0 _ rfl, ((unhide HS5).at 6 rfl).ub.c 2 _ rfl⟩⟩ ?_
    clear hK K
    refine wpR_late (i := 11) (o := _) (by kernel_rfl) rfl rfl (by kernel_rfl) (fun K hK => ?_)
    go_simp
    refine hK _ _ (⟨((unhide HS5).at 1 rfl).ub.c 0 _ rfl, ((unhide HS5).at 6 rfl).ub.c 1 _ rfl, ((unhide HS5).at 0 rfl).ub.c 0 _ rfl, ((unhide HS5).at 6 rfl).ub.c 2 _ rfl⟩) ?_
    clear hK K
    refine wpR_done (by kernel_rfl) ?_
    have u0 := ((unhide HS5).at 2 rfl).ub.c 0 _ rfl
    have u1 := ((unhide HS5).at 5 rfl).ub.c 0 _ rfl
    have u2 := ((unhide HS5).at 5 rfl).ub.f 0 (.slice none 0 0) rfl
    go_wp2_with fail
    clear u0 u1 u2
    rw [((unhide HS5).at 5 rfl).set1]
    have HS6 := hide (((unhide HS5).rot.rot.rot.rot.rot).set (nz1 _ _ _) #[.slice a9 l9 c9])
    clear HS5
    generalize Y5.setRow (w.heap.size + 1) #[.slice a9 l9 c9] = Y6 at *
    have u0 := ((unhide HS6).at 0 rfl).ub.c 0 _ rfl
    exact bodyPost_ret (v := .tuple #[.agg #[.slice a9 l9 c9], .bool true]) (by simp [results, Tryz.results110, go_sem, u0]) rfl ⟨_, _, _, rfl, ((unhide HS6).bgt 2 rfl), (unhide HS6).below⟩
end Go.Proofs.YtijifpbpjinmhaaGreatDoor

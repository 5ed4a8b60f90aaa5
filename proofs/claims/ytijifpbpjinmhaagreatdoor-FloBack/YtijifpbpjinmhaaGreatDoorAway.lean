/- flo: sizeOf (94), away (68). -/
import Derived.Test.YtijifpbpjinmhaaGreatDoorSt2
set_option maxHeartbeats 4000000
set_option maxRecDepth 100000
namespace Go.Proofs.YtijifpbpjinmhaaGreatDoor
open Go.RowKit
theorem subB (x y : Value) (m n k : Nat) (w : World) (hx : IsBig w x m) (hy : IsBig w y n) (hk : k ≤ 1000000) (hm : m < 1000000000 ^ k) (hle : n ≤ m) :
    Calls Tryz.prog 162 #[x, y] w fun e w' => ∃ a l c, e = .returned (.agg #[.slice a l c]) ∧ IsBig w' (.agg #[.slice a l c]) (m - n) ∧ Below w.heap.size w w' := by
  refine (sub_any x y m n k w hx hy hk hm hle).mono ?_
  rintro e w' ⟨v, rfl, hv, hb⟩
  obtain ⟨a, n, c, rfl⟩ := hv.shape
  exact ⟨a, n, c, rfl, hv, hb⟩
theorem sizeOf_any (b m : Nat) (x : Int) (P Q k : Nat) (w : World) (hc : CutAns b m x) (hm : m < 18446744073709551616) (ht : ∀ W, Calls Tryz.prog 74 #[.int .i64 x] W fun e w' => ∃ v, e = .returned v ∧ IsSz w' v P Q ∧ Below W.heap.size W w') (hk : k ≤ 1000000) (hb : m < 1000000000 ^ k ∧ 1 < 1000000000 ^ k ∧ P < 1000000000 ^ k ∧ Q < 1000000000 ^ k) :
    Calls Tryz.prog 38 #[.float .f64 b] w fun e w' => ∃ v, e = .returned v ∧ IsSz w' v (m * P) (1 * Q) ∧ Below w.heap.size w w' := by
  obtain ⟨V, hV⟩ : ∃ V, V = (w.alloc (.cells #[.slice none 0 0, .slice none 0 0] 54)) := ⟨_, rfl⟩
  have HS0 : Hid (St w [(w.heap.size, 54, #[.slice none 0 0, .slice none 0 0])] [] V) := by rw [hV]; have h := ((St.nil (Below.refl _ w)).new #[.slice none 0 0, .slice none 0 0] 54); (try simp only [World.size_alloc] at h); exact h
  have HV := hide hV
  have HC := hide hc
  have HT := hide ht
  have HK := hide hk
  have HB := hide hb
  clear hV hc ht hk hb
  go_enter Tryz.func38, Tryz.ntmps38
  go_upto_region 1 with fail
  rw [← unhide HV]
  clear HV
  go_upto_region 2 with (go_at_call 66; go_must (refine (unhide HC _).mono ?_; rintro e ww ⟨rfl, rfl⟩))
  go_wp2_with (first
    | (have hchk := HS4; clear hchk; refine storeT 54 2 info59 rfl (.tmp 2) (.tmp 15) rfl w.heap.size #[.slice none 0 0, .slice none 0 0] #[.slice a7 l7 c7, .slice a8 l8 c8] rfl rfl rfl rfl ((unhide HS4).at 0 rfl) (by kernel_rfl) ?_)
    | (have hchk := HS3; clear hchk; go_at_call 47; go_must (refine (times_any _ _ _ _ _ _ _ _ _ _ _ _ m 1 P Q k _ ((unhide HS3).bgt 3 rfl) ((unhide HS3).bgt 2 rfl) ((unhide HS3).bgt 1 rfl) ((unhide HS3).bgt 0 rfl) (unhide HK) (unhide HB).1 (unhide HB).2.1 (unhide HB).2.2.1 (unhide HB).2.2.2).mono ?_; rintro e U4 ⟨_, rfl, ⟨a7, l7, c7, a8, l8, c8, rfl, hv1, hv2⟩, hb⟩; have HS4 := hide ((((unhide HS3).later hb).push hv1).push hv2); clear HS3; clear hv1 hv2 hb))
    | (have hchk := HS2; clear hchk; go_at_call 74; go_must (refine (unhide HT _).mono ?_; rintro e U3 ⟨_, rfl, ⟨a5, l5, c5, a6, l6, c6, rfl, hv1, hv2⟩, hb⟩; have HS3 := hide ((((unhide HS2).later hb).push hv1).push hv2); clear HS2; clear hv1 hv2 hb))
    | (have hchk := HS1; clear hchk; go_at_call 46; go_must (refine (whole_any _ _ _ m _ ((unhide HS1).bgt 0 rfl)).mono ?_; rintro e U2 ⟨_, rfl, ⟨a3, l3, c3, a4, l4, c4, rfl, hv1, hv2⟩, hb⟩; have HS2 := hide ((((unhide HS1).later hb).push hv1).push hv2); clear HS1; clear hv1 hv2 hb))
    | (have hchk := HS0; clear hchk; go_at_call 73; go_must (refine (bigOf_any m _ hm).mono ?_; rintro e U1 ⟨a1, l1, c1, rfl, hv, hb⟩; have HS1 := hide (((unhide HS0).later hb).push hv); clear HS0; clear hv hb)))
  have HS5 := hide (((unhide HS4)).set (nz2 _ _ _ _ _ _) #[.slice a7 l7 c7, .slice a8 l8 c8])
  clear HS4
  generalize U4.setRow w.heap.size #[.slice a7 l7 c7, .slice a8 l8 c8] = U5 at *
  exact bodyPost_ret (v := .agg #[.slice a7 l7 c7, .slice a8 l8 c8]) (res59 Tryz.results38 _ _ w.heap.size _ rfl rfl ((unhide HS5).at 0 rfl)) rfl ⟨_, rfl, IsSz.mk ((unhide HS5).bgt 1 rfl) ((unhide HS5).bgt 0 rfl), (unhide HS5).below⟩
theorem away_any (a1 : Option Addr) (l1 c1 : Nat) (a2 : Option Addr) (l2 c2 : Nat) (p q a c k b : Nat) (w : World) (hp : IsBig w (.agg #[.slice a1 l1 c1]) p) (hq : IsBig w (.agg #[.slice a2 l2 c2]) q) (hs : ∀ W, Calls Tryz.prog 38 #[.float .f64 b] W fun e w' => ∃ v, e = .returned v ∧ IsSz w' v a c ∧ Below W.heap.size W w') (hk : k ≤ 500000) (hl : p < 1000000000 ^ k ∧ q < 1000000000 ^ k ∧ a < 1000000000 ^ k ∧ c < 1000000000 ^ k) :
    Calls Tryz.prog 126 #[.agg #[.slice a1 l1 c1, .slice a2 l2 c2], .float .f64 b] w fun e w' => ∃ v, e = .returned v ∧ IsSz w' v (if p * c < a * q then a * q - p * c else p * c - a * q) c ∧ Below w.heap.size w w' := by
  have hls : k + k ≤ 1000000 ∧ p * c < 1000000000 ^ (k + k) ∧ a * q < 1000000000 ^ (k + k) := ⟨by omega, by rw [Nat.pow_add]; exact Nat.mul_lt_mul'' hl.1 hl.2.2.2, by rw [Nat.pow_add]; exact Nat.mul_lt_mul'' hl.2.2.1 hl.2.1⟩
  obtain ⟨D, hdd⟩ : ∃ D, D = (if p * c < a * q then a * q - p * c else p * c - a * q) := ⟨_, rfl⟩
  rw [← hdd]
  obtain ⟨V, hV⟩ : ∃ V, V = ((w.alloc (.cells #[.slice a1 l1 c1, .slice a2 l2 c2] 54)).alloc (.cells #[.slice none 0 0, .slice none 0 0] 54)) := ⟨_, rfl⟩
  have HS0 : Hid (St w [((w.heap.size + 1), 54, #[.slice none 0 0, .slice none 0 0]), (w.heap.size, 54, #[.slice a1 l1 c1, .slice a2 l2 c2])] [(.agg #[.slice a2 l2 c2], q), (.agg #[.slice a1 l1 c1], p)] V) := by rw [hV]; have h := (((((St.nil (Below.refl _ w)).push hp).push hq).new #[.slice a1 l1 c1, .slice a2 l2 c2] 54).new #[.slice none 0 0, .slice none 0 0] 54); (try simp only [World.size_alloc] at h); exact h
  have HV := hide hV
  have HS := hide hs
  have HK := hide hk
  have HL := hide hl
  have HLS := hide hls
  have HDD := hide hdd
  clear hV hs hk hl hp hq hls hdd
  go_enter Tryz.func126, Tryz.ntmps126
  go_upto_region 1 with fail
  rw [← unhide HV]
  clear HV
  go_upto_region 2 with (first
    | (have hchk := HS0; clear hchk; go_at_call 38; go_must (refine (unhide HS _).mono ?_; rintro e U1 ⟨_, rfl, ⟨a3, l3, c3, a4, l4, c4, rfl, hv1, hv2⟩, hb⟩; have HS1 := hide ((((unhide HS0).later hb).push hv1).push hv2); clear HS0; clear hv1 hv2 hb))
    | (have hchk := HS1; clear hchk; refine storeT 54 2 info59 rfl (.tmp 5) (.tmp 9) rfl U1.heap.size #[.slice none 0 0, .slice none 0 0] #[.slice a3 l3 c3, .slice a4 l4 c4] rfl rfl rfl rfl (OwnU.new _ _ _) (by kernel_rfl) ?_))
  have HS2 := hide ((unhide HS1).new #[.slice none 0 0, .slice none 0 0] 54)
  clear HS1
  generalize U1.alloc (.cells #[.slice none 0 0, .slice none 0 0] 54) = U2 at *
  generalize U1.heap.size = g5 at *
  have HS3 := hide (((unhide HS2)).set (nz2 _ _ _ _ _ _) #[.slice a3 l3 c3, .slice a4 l4 c4])
  clear HS2
  generalize U2.setRow g5 #[.slice a3 l3 c3, .slice a4 l4 c4] = U3 at *
  have hpn : ∀ (a : Act) (v : Value), a.put none v = a := fun _ _ => rfl
  simp only [hpn]
  clear hpn
  go_cut [6, 7] from 20 (fun s6 s7 wx => ∃ g6 g7 a5 l5 c5 a6 l6 c6, s6 = .pointer (some ⟨g6, 0, none⟩) ∧ s7 = .pointer (some ⟨g7, 0, none⟩) ∧ Hid (St w [(g7, 51, #[.slice a6 l6 c6]), (g6, 51, #[.slice a5 l5 c5]), (g5, 54, #[.slice a3 l3 c3, .slice a4 l4 c4]), ((w.heap.size + 1), 54, #[.slice none 0 0, .slice none 0 0])] [(.agg #[.slice a6 l6 c6], a * q), (.agg #[.slice a5 l5 c5], p * c), (.agg #[.slice a4 l4 c4], c)] wx))
  case first =>
    refine region_reads 12 (fun _ => True) (fun W' => W'.cell? ⟨w.heap.size, 0, none⟩ = some (.slice a1 l1 c1) ∧ W'.cell? ⟨w.heap.size, 1, none⟩ = some (.slice a2 l2 c2) ∧ W'.cell? ⟨g5, 0, none⟩ = some (.slice a3 l3 c3) ∧ W'.cell? ⟨g5, 1, none⟩ = some (.slice a4 l4 c4)) 14 rfl (by kernel_rfl) ?_
    have HS4 := hide ((unhide HS3).later ((Below.refl _ _).drew))
    clear HS3
    generalize U3.drew = X0 at *
    refine wpR_take7 (i := 0) (oi := _) (v := .pointer (some ⟨w.heap.size, 0, none⟩)) rfl (by kernel_rfl) (by kernel_rfl) (by kernel_rfl) (by kernel_rfl) (fun _ _ _ h => h) (Or.inl ⟨by rfl, ?_⟩) ⟨trivial, ⟨((unhide HS4).at 2 rfl).ub.c 0 _ rfl, ((unhide HS4).at 2 rfl).ub.c 1 _ rfl, ((unhide HS4).at 0 rfl).ub.c 0 _ rfl, ((unhide HS4).at 0 rfl).ub.c 1 _ rfl⟩⟩ ?_
    · intro W' hW
      go_split_ands
      go_simp
    refine wpR_take7 (i := 1) (oi := _) (v := .agg #[.slice a1 l1 c1]) rfl (by kernel_rfl) (by kernel_rfl) (by kernel_rfl) (by kernel_rfl) (fun _ _ _ h => h) (Or.inl ⟨by rfl, ?_⟩) ⟨trivial, ⟨((unhide HS4).at 2 rfl).ub.c 0 _ rfl, ((unhide HS4).at 2 rfl).ub.c 1 _ rfl, ((unhide HS4).at 0 rfl).ub.c 0 _ rfl, ((unhide HS4).at 0 rfl).ub.c 1 _ rfl⟩⟩ ?_
    · intro W' hW
      go_split_ands
      go_simp
    refine wpR_take7 (i := 2) (oi := _) (v := .pointer (some ⟨g5, 1, none⟩)) rfl (by kernel_rfl) (by kernel_rfl) (by kernel_rfl) (by kernel_rfl) (fun _ _ _ h => h) (Or.inl ⟨by rfl, ?_⟩) ⟨trivial, ⟨((unhide HS4).at 2 rfl).ub.c 0 _ rfl, ((unhide HS4).at 2 rfl).ub.c 1 _ rfl, ((unhide HS4).at 0 rfl).ub.c 0 _ rfl, ((unhide HS4).at 0 rfl).ub.c 1 _ rfl⟩⟩ ?_
    · intro W' hW
      go_split_ands
      go_simp
    refine wpR_take7 (i := 3) (oi := _) (v := .agg #[.slice a4 l4 c4]) rfl (by kernel_rfl) (by kernel_rfl) (by kernel_rfl) (by kernel_rfl) (fun _ _ _ h => h) (Or.inl ⟨by rfl, ?_⟩) ⟨trivial, ⟨((unhide HS4).at 2 rfl).ub.c 0 _ rfl, ((unhide HS4).at 2 rfl).ub.c 1 _ rfl, ((unhide HS4).at 0 rfl).ub.c 0 _ rfl, ((unhide HS4).at 0 rfl).ub.c 1 _ rfl⟩⟩ ?_
    · intro W' hW
      go_split_ands
      go_simp
    refine wpR_take7 (i := 5) (oi := _) (v := .pointer (some ⟨g5, 0, none⟩)) rfl (by kernel_rfl) (by kernel_rfl) (by kernel_rfl) (by kernel_rfl) (fun _ _ _ h => h) (Or.inl ⟨by rfl, ?_⟩) ⟨trivial, ⟨((unhide HS4).at 2 rfl).ub.c 0 _ rfl, ((unhide HS4).at 2 rfl).ub.c 1 _ rfl, ((unhide HS4).at 0 rfl).ub.c 0 _ rfl, ((unhide HS4).at 0 rfl).ub.c 1 _ rfl⟩⟩ ?_
    · intro W' hW
      go_split_ands
      go_simp
    refine wpR_take7 (i := 6) (oi := _) (v := .agg #[.slice a3 l3 c3]) rfl (by kernel_rfl) (by kernel_rfl) (by kernel_rfl) (by kernel_rfl) (fun _ _ _ h => h) (Or.inl ⟨by rfl, ?_⟩) ⟨trivial, ⟨((unhide HS4).at 2 rfl).ub.c 0 _ rfl, ((unhide HS4).at 2 rfl).ub.c 1 _ rfl, ((unhide HS4).at 0 rfl).ub.c 0 _ rfl, ((unhide HS4).at 0 rfl).ub.c 1 _ rfl⟩⟩ ?_
    · intro W' hW
      go_split_ands
      go_simp
    refine wpR_take7 (i := 7) (oi := _) (v := .pointer (some ⟨w.heap.size, 1, none⟩)) rfl (by kernel_rfl) (by kernel_rfl) (by kernel_rfl) (by kernel_rfl) (fun _ _ _ h => h) (Or.inl ⟨by rfl, ?_⟩) ⟨trivial, ⟨((unhide HS4).at 2 rfl).ub.c 0 _ rfl, ((unhide HS4).at 2 rfl).ub.c 1 _ rfl, ((unhide HS4).at 0 rfl).ub.c 0 _ rfl, ((unhide HS4).at 0 rfl).ub.c 1 _ rfl⟩⟩ ?_
    · intro W' hW
      go_split_ands
      go_simp
    refine wpR_take7 (i := 8) (oi := _) (v := .agg #[.slice a2 l2 c2]) rfl (by kernel_rfl) (by kernel_rfl) (by kernel_rfl) (by kernel_rfl) (fun _ _ _ h => h) (Or.inl ⟨by rfl, ?_⟩) ⟨trivial, ⟨((unhide HS4).at 2 rfl).ub.c 0 _ rfl, ((unhide HS4).at 2 rfl).ub.c 1 _ rfl, ((unhide HS4).at 0 rfl).ub.c 0 _ rfl, ((unhide HS4).at 0 rfl).ub.c 1 _ rfl⟩⟩ ?_
    · intro W' hW
      go_split_ands
      go_simp
    refine wpR_three (i := 4) (j := 10) (m := 11) (by kernel_rfl) rfl rfl rfl rfl rfl rfl (fun K hK => ?_) (fun K hK => ?_) (fun K hK => ?_) 
    · go_simp
      refine (mulB _ _ p c (p * c) k _ ((unhide HS4).bgt 3 rfl) ((unhide HS4).bgt 0 rfl) (by have := unhide HK; omega) (unhide HL).1 (unhide HL).2.2.2 rfl).mono ?_
      rintro e X1 ⟨a5, l5, c5, rfl, hv, hb⟩
      have HS5 := hide (((unhide HS4).later hb).push hv)
      clear HS4
      clear hv hb
      refine hK _ _ ⟨trivial, ⟨((unhide HS5).at 2 rfl).ub.c 0 _ rfl, ((unhide HS5).at 2 rfl).ub.c 1 _ rfl, ((unhide HS5).at 0 rfl).ub.c 0 _ rfl, ((unhide HS5).at 0 rfl).ub.c 1 _ rfl⟩⟩ ?_
      clear hK K
      refine wpR_three (i := 9) (j := 10) (m := 11) (by kernel_rfl) rfl rfl rfl rfl rfl rfl (fun K hK => ?_) (fun K hK => ?_) (fun K hK => ?_) 
      · go_simp
        refine (mulB _ _ a q (a * q) k _ ((unhide HS5).bgt 2 rfl) ((unhide HS5).bgt 3 rfl) (by have := unhide HK; omega) (unhide HL).2.2.1 (unhide HL).2.1 rfl).mono ?_
        rintro e X2 ⟨a6, l6, c6, rfl, hv, hb⟩
        have HS6 := hide (((unhide HS5).later hb).push hv)
        clear HS5
        clear hv hb
        refine hK _ _ ⟨trivial, ⟨((unhide HS6).at 2 rfl).ub.c 0 _ rfl, ((unhide HS6).at 2 rfl).ub.c 1 _ rfl, ((unhide HS6).at 0 rfl).ub.c 0 _ rfl, ((unhide HS6).at 0 rfl).ub.c 1 _ rfl⟩⟩ ?_
        clear hK K
        refine wpR_two (i := 10) (j := 11) (by kernel_rfl) rfl rfl rfl rfl (fun K hK => ?_) (fun K hK => ?_) 
        · go_simp
          have HS7 := hide ((unhide HS6).new #[.slice none 0 0] 51)
          clear HS6
          generalize X2.alloc (.cells #[.slice none 0 0] 51) = X3 at *
          generalize X2.heap.size = g6 at *
          refine hK _ _ ⟨trivial, ⟨((unhide HS7).at 3 rfl).ub.c 0 _ rfl, ((unhide HS7).at 3 rfl).ub.c 1 _ rfl, ((unhide HS7).at 1 rfl).ub.c 0 _ rfl, ((unhide HS7).at 1 rfl).ub.c 1 _ rfl⟩⟩ ?_
          clear hK K
          refine wpR_op (i := 11) (o := _) (by kernel_rfl) rfl rfl (fun K hK => ?_)
          go_simp
          have HS8 := hide ((unhide HS7).new #[.slice none 0 0] 51)
          clear HS7
          generalize X3.alloc (.cells #[.slice none 0 0] 51) = X4 at *
          generalize X3.heap.size = g7 at *
          refine hK _ _ ⟨trivial, ⟨((unhide HS8).at 4 rfl).ub.c 0 _ rfl, ((unhide HS8).at 4 rfl).ub.c 1 _ rfl, ((unhide HS8).at 2 rfl).ub.c 0 _ rfl, ((unhide HS8).at 2 rfl).ub.c 1 _ rfl⟩⟩ ?_
          clear hK K
          have u0 := ((unhide HS8).at 1 rfl).ub.c 0 _ rfl
          have u1 := ((unhide HS8).at 1 rfl).ub.f 0 (.slice none 0 0) rfl
          refine wpR_late (i := 12) (o := _) (by kernel_rfl) rfl rfl (by kernel_rfl) (fun K hK => ?_)
          go_simp
          clear u0 u1
          rw [((unhide HS8).at 1 rfl).set1]
          have HS9 := hide (((unhide HS8).rot).set (nz1 _ _ _) #[.slice a5 l5 c5])
          clear HS8
          generalize X4.setRow g6 #[.slice a5 l5 c5] = X5 at *
          refine hK _ _ (⟨((unhide HS9).at 3 rfl).ub.c 0 _ rfl, ((unhide HS9).at 3 rfl).ub.c 1 _ rfl, ((unhide HS9).at 1 rfl).ub.c 0 _ rfl, ((unhide HS9).at 1 rfl).ub.c 1 _ rfl⟩) ?_
          clear hK K
          have u0 := ((unhide HS9).at 4 rfl).ub.c 0 _ rfl
          have u1 := ((unhide HS9).at 4 rfl).ub.f 0 (.slice none 0 0) rfl
          refine wpR_late (i := 13) (o := _) (by kernel_rfl) rfl rfl (by kernel_rfl) (fun K hK => ?_)
          go_simp
          clear u0 u1
          rw [((unhide HS9).at 4 rfl).set1]
          have HS10 := hide (((unhide HS9).rot.rot.rot.rot).set (nz1 _ _ _) #[.slice a6 l6 c6])
          clear HS9
          generalize X5.setRow g7 #[.slice a6 l6 c6] = X6 at *
          refine hK _ _ (⟨((unhide HS10).at 4 rfl).ub.c 0 _ rfl, ((unhide HS10).at 4 rfl).ub.c 1 _ rfl, ((unhide HS10).at 2 rfl).ub.c 0 _ rfl, ((unhide HS10).at 2 rfl).ub.c 1 _ rfl⟩) ?_
          clear hK K
          refine wpR_done (by kernel_rfl) ?_
          go_wp2_with fail
          go_meet
          have HS11 := hide (((unhide HS10).rot.rot.rot.rot).tail)
          clear HS10
          exact ⟨g6, g7, a5, l5, c5, a6, l6, c6, rfl, rfl, hide (((unhide HS11)).first 3)⟩
        · go_simp
          have HS7 := hide ((unhide HS6).new #[.slice none 0 0] 51)
          clear HS6
          generalize X2.alloc (.cells #[.slice none 0 0] 51) = X7 at *
          generalize X2.heap.size = g7 at *
          refine hK _ _ ⟨trivial, ⟨((unhide HS7).at 3 rfl).ub.c 0 _ rfl, ((unhide HS7).at 3 rfl).ub.c 1 _ rfl, ((unhide HS7).at 1 rfl).ub.c 0 _ rfl, ((unhide HS7).at 1 rfl).ub.c 1 _ rfl⟩⟩ ?_
          clear hK K
          refine wpR_op (i := 10) (o := _) (by kernel_rfl) rfl rfl (fun K hK => ?_)
          go_simp
          have HS8 := hide ((unhide HS7).new #[.slice none 0 0] 51)
          clear HS7
          generalize X7.alloc (.cells #[.slice none 0 0] 51) = X8 at *
          generalize X7.heap.size = g6 at *
          refine hK _ _ ⟨trivial, ⟨((unhide HS8).at 4 rfl).ub.c 0 _ rfl, ((unhide HS8).at 4 rfl).ub.c 1 _ rfl, ((unhide HS8).at 2 rfl).ub.c 0 _ rfl, ((unhide HS8).at 2 rfl).ub.c 1 _ rfl⟩⟩ ?_
          clear hK K
          have u0 := ((unhide HS8).at 0 rfl).ub.c 0 _ rfl
          have u1 := ((unhide HS8).at 0 rfl).ub.f 0 (.slice none 0 0) rfl
          refine wpR_late (i := 12) (o := _) (by kernel_rfl) rfl rfl (by kernel_rfl) (fun K hK => ?_)
          go_simp
          clear u0 u1
          rw [((unhide HS8).at 0 rfl).set1]
          have HS9 := hide (((unhide HS8)).set (nz1 _ _ _) #[.slice a5 l5 c5])
          clear HS8
          generalize X8.setRow g6 #[.slice a5 l5 c5] = X9 at *
          refine hK _ _ (⟨((unhide HS9).at 4 rfl).ub.c 0 _ rfl, ((unhide HS9).at 4 rfl).ub.c 1 _ rfl, ((unhide HS9).at 2 rfl).ub.c 0 _ rfl, ((unhide HS9).at 2 rfl).ub.c 1 _ rfl⟩) ?_
          clear hK K
          have u0 := ((unhide HS9).at 1 rfl).ub.c 0 _ rfl
          have u1 := ((unhide HS9).at 1 rfl).ub.f 0 (.slice none 0 0) rfl
          refine wpR_late (i := 13) (o := _) (by kernel_rfl) rfl rfl (by kernel_rfl) (fun K hK => ?_)
          go_simp
          clear u0 u1
          rw [((unhide HS9).at 1 rfl).set1]
          have HS10 := hide (((unhide HS9).rot).set (nz1 _ _ _) #[.slice a6 l6 c6])
          clear HS9
          generalize X9.setRow g7 #[.slice a6 l6 c6] = X10 at *
          refine hK _ _ (⟨((unhide HS10).at 3 rfl).ub.c 0 _ rfl, ((unhide HS10).at 3 rfl).ub.c 1 _ rfl, ((unhide HS10).at 1 rfl).ub.c 0 _ rfl, ((unhide HS10).at 1 rfl).ub.c 1 _ rfl⟩) ?_
          clear hK K
          refine wpR_done (by kernel_rfl) ?_
          go_wp2_with fail
          go_meet
          have HS11 := hide (((unhide HS10).rot.rot.rot).tail)
          clear HS10
          exact ⟨g6, g7, a5, l5, c5, a6, l6, c6, rfl, rfl, hide (((unhide HS11).sw).first 3)⟩
      · go_simp
        have HS6 := hide ((unhide HS5).new #[.slice none 0 0] 51)
        clear HS5
        generalize X1.alloc (.cells #[.slice none 0 0] 51) = X11 at *
        generalize X1.heap.size = g6 at *
        refine hK _ _ ⟨trivial, ⟨((unhide HS6).at 3 rfl).ub.c 0 _ rfl, ((unhide HS6).at 3 rfl).ub.c 1 _ rfl, ((unhide HS6).at 1 rfl).ub.c 0 _ rfl, ((unhide HS6).at 1 rfl).ub.c 1 _ rfl⟩⟩ ?_
        clear hK K
        refine wpR_two (i := 9) (j := 11) (by kernel_rfl) rfl rfl rfl rfl (fun K hK => ?_) (fun K hK => ?_) 
        · go_simp
          refine (mulB _ _ a q (a * q) k _ ((unhide HS6).bgt 2 rfl) ((unhide HS6).bgt 3 rfl) (by have := unhide HK; omega) (unhide HL).2.2.1 (unhide HL).2.1 rfl).mono ?_
          rintro e X12 ⟨a6, l6, c6, rfl, hv, hb⟩
          have HS7 := hide (((unhide HS6).later hb).push hv)
          clear HS6
          clear hv hb
          refine hK _ _ ⟨trivial, ⟨((unhide HS7).at 3 rfl).ub.c 0 _ rfl, ((unhide HS7).at 3 rfl).ub.c 1 _ rfl, ((unhide HS7).at 1 rfl).ub.c 0 _ rfl, ((unhide HS7).at 1 rfl).ub.c 1 _ rfl⟩⟩ ?_
          clear hK K
          refine wpR_op (i := 11) (o := _) (by kernel_rfl) rfl rfl (fun K hK => ?_)
          go_simp
          have HS8 := hide ((unhide HS7).new #[.slice none 0 0] 51)
          clear HS7
          generalize X12.alloc (.cells #[.slice none 0 0] 51) = X13 at *
          generalize X12.heap.size = g7 at *
          refine hK _ _ ⟨trivial, ⟨((unhide HS8).at 4 rfl).ub.c 0 _ rfl, ((unhide HS8).at 4 rfl).ub.c 1 _ rfl, ((unhide HS8).at 2 rfl).ub.c 0 _ rfl, ((unhide HS8).at 2 rfl).ub.c 1 _ rfl⟩⟩ ?_
          clear hK K
          have u0 := ((unhide HS8).at 1 rfl).ub.c 0 _ rfl
          have u1 := ((unhide HS8).at 1 rfl).ub.f 0 (.slice none 0 0) rfl
          refine wpR_late (i := 12) (o := _) (by kernel_rfl) rfl rfl (by kernel_rfl) (fun K hK => ?_)
          go_simp
          clear u0 u1
          rw [((unhide HS8).at 1 rfl).set1]
          have HS9 := hide (((unhide HS8).rot).set (nz1 _ _ _) #[.slice a5 l5 c5])
          clear HS8
          generalize X13.setRow g6 #[.slice a5 l5 c5] = X14 at *
          refine hK _ _ (⟨((unhide HS9).at 3 rfl).ub.c 0 _ rfl, ((unhide HS9).at 3 rfl).ub.c 1 _ rfl, ((unhide HS9).at 1 rfl).ub.c 0 _ rfl, ((unhide HS9).at 1 rfl).ub.c 1 _ rfl⟩) ?_
          clear hK K
          have u0 := ((unhide HS9).at 4 rfl).ub.c 0 _ rfl
          have u1 := ((unhide HS9).at 4 rfl).ub.f 0 (.slice none 0 0) rfl
          refine wpR_late (i := 13) (o := _) (by kernel_rfl) rfl rfl (by kernel_rfl) (fun K hK => ?_)
          go_simp
          clear u0 u1
          rw [((unhide HS9).at 4 rfl).set1]
          have HS10 := hide (((unhide HS9).rot.rot.rot.rot).set (nz1 _ _ _) #[.slice a6 l6 c6])
          clear HS9
          generalize X14.setRow g7 #[.slice a6 l6 c6] = X15 at *
          refine hK _ _ (⟨((unhide HS10).at 4 rfl).ub.c 0 _ rfl, ((unhide HS10).at 4 rfl).ub.c 1 _ rfl, ((unhide HS10).at 2 rfl).ub.c 0 _ rfl, ((unhide HS10).at 2 rfl).ub.c 1 _ rfl⟩) ?_
          clear hK K
          refine wpR_done (by kernel_rfl) ?_
          go_wp2_with fail
          go_meet
          have HS11 := hide (((unhide HS10).rot.rot.rot.rot).tail)
          clear HS10
          exact ⟨g6, g7, a5, l5, c5, a6, l6, c6, rfl, rfl, hide (((unhide HS11)).first 3)⟩
        · go_simp
          have HS7 := hide ((unhide HS6).new #[.slice none 0 0] 51)
          clear HS6
          generalize X11.alloc (.cells #[.slice none 0 0] 51) = X16 at *
          generalize X11.heap.size = g7 at *
          refine hK _ _ ⟨trivial, ⟨((unhide HS7).at 4 rfl).ub.c 0 _ rfl, ((unhide HS7).at 4 rfl).ub.c 1 _ rfl, ((unhide HS7).at 2 rfl).ub.c 0 _ rfl, ((unhide HS7).at 2 rfl).ub.c 1 _ rfl⟩⟩ ?_
          clear hK K
          refine wpR_op (i := 9) (o := _) (by kernel_rfl) rfl rfl (fun K hK => ?_)
          go_simp
          refine (mulB _ _ a q (a * q) k _ ((unhide HS7).bgt 2 rfl) ((unhide HS7).bgt 3 rfl) (by have := unhide HK; omega) (unhide HL).2.2.1 (unhide HL).2.1 rfl).mono ?_
          rintro e X17 ⟨a6, l6, c6, rfl, hv, hb⟩
          have HS8 := hide (((unhide HS7).later hb).push hv)
          clear HS7
          clear hv hb
          refine hK _ _ ⟨trivial, ⟨((unhide HS8).at 4 rfl).ub.c 0 _ rfl, ((unhide HS8).at 4 rfl).ub.c 1 _ rfl, ((unhide HS8).at 2 rfl).ub.c 0 _ rfl, ((unhide HS8).at 2 rfl).ub.c 1 _ rfl⟩⟩ ?_
          clear hK K
          have u0 := ((unhide HS8).at 1 rfl).ub.c 0 _ rfl
          have u1 := ((unhide HS8).at 1 rfl).ub.f 0 (.slice none 0 0) rfl
          refine wpR_late (i := 12) (o := _) (by kernel_rfl) rfl rfl (by kernel_rfl) (fun K hK => ?_)
          go_simp
          clear u0 u1
          rw [((unhide HS8).at 1 rfl).set1]
          have HS9 := hide (((unhide HS8).rot).set (nz1 _ _ _) #[.slice a5 l5 c5])
          clear HS8
          generalize X17.setRow g6 #[.slice a5 l5 c5] = X18 at *
          refine hK _ _ (⟨((unhide HS9).at 3 rfl).ub.c 0 _ rfl, ((unhide HS9).at 3 rfl).ub.c 1 _ rfl, ((unhide HS9).at 1 rfl).ub.c 0 _ rfl, ((unhide HS9).at 1 rfl).ub.c 1 _ rfl⟩) ?_
          clear hK K
          have u0 := ((unhide HS9).at 4 rfl).ub.c 0 _ rfl
          have u1 := ((unhide HS9).at 4 rfl).ub.f 0 (.slice none 0 0) rfl
          refine wpR_late (i := 13) (o := _) (by kernel_rfl) rfl rfl (by kernel_rfl) (fun K hK => ?_)
          go_simp
          clear u0 u1
          rw [((unhide HS9).at 4 rfl).set1]
          have HS10 := hide (((unhide HS9).rot.rot.rot.rot).set (nz1 _ _ _) #[.slice a6 l6 c6])
          clear HS9
          generalize X18.setRow g7 #[.slice a6 l6 c6] = X19 at *
          refine hK _ _ (⟨((unhide HS10).at 4 rfl).ub.c 0 _ rfl, ((unhide HS10).at 4 rfl).ub.c 1 _ rfl, ((unhide HS10).at 2 rfl).ub.c 0 _ rfl, ((unhide HS10).at 2 rfl).ub.c 1 _ rfl⟩) ?_
          clear hK K
          refine wpR_done (by kernel_rfl) ?_
          go_wp2_with fail
          go_meet
          have HS11 := hide (((unhide HS10).rot.rot.rot.rot).tail)
          clear HS10
          exact ⟨g6, g7, a5, l5, c5, a6, l6, c6, rfl, rfl, hide (((unhide HS11)).first 3)⟩
      · go_simp
        have HS6 := hide ((unhide HS5).new #[.slice none 0 0] 51)
        clear HS5
        generalize X1.alloc (.cells #[.slice none 0 0] 51) = X20 at *
        generalize X1.heap.size = g7 at *
        refine hK _ _ ⟨trivial, ⟨((unhide HS6).at 3 rfl).ub.c 0 _ rfl, ((unhide HS6).at 3 rfl).ub.c 1 _ rfl, ((unhide HS6).at 1 rfl).ub.c 0 _ rfl, ((unhide HS6).at 1 rfl).ub.c 1 _ rfl⟩⟩ ?_
        clear hK K
        refine wpR_two (i := 9) (j := 10) (by kernel_rfl) rfl rfl rfl rfl (fun K hK => ?_) (fun K hK => ?_) 
        · go_simp
          refine (mulB _ _ a q (a * q) k _ ((unhide HS6).bgt 2 rfl) ((unhide HS6).bgt 3 rfl) (by have := unhide HK; omega) (unhide HL).2.2.1 (unhide HL).2.1 rfl).mono ?_
          rintro e X21 ⟨a6, l6, c6, rfl, hv, hb⟩
          have HS7 := hide (((unhide HS6).later hb).push hv)
          clear HS6
          clear hv hb
          refine hK _ _ ⟨trivial, ⟨((unhide HS7).at 3 rfl).ub.c 0 _ rfl, ((unhide HS7).at 3 rfl).ub.c 1 _ rfl, ((unhide HS7).at 1 rfl).ub.c 0 _ rfl, ((unhide HS7).at 1 rfl).ub.c 1 _ rfl⟩⟩ ?_
          clear hK K
          refine wpR_op (i := 10) (o := _) (by kernel_rfl) rfl rfl (fun K hK => ?_)
          go_simp
          have HS8 := hide ((unhide HS7).new #[.slice none 0 0] 51)
          clear HS7
          generalize X21.alloc (.cells #[.slice none 0 0] 51) = X22 at *
          generalize X21.heap.size = g6 at *
          refine hK _ _ ⟨trivial, ⟨((unhide HS8).at 4 rfl).ub.c 0 _ rfl, ((unhide HS8).at 4 rfl).ub.c 1 _ rfl, ((unhide HS8).at 2 rfl).ub.c 0 _ rfl, ((unhide HS8).at 2 rfl).ub.c 1 _ rfl⟩⟩ ?_
          clear hK K
          have u0 := ((unhide HS8).at 0 rfl).ub.c 0 _ rfl
          have u1 := ((unhide HS8).at 0 rfl).ub.f 0 (.slice none 0 0) rfl
          refine wpR_late (i := 12) (o := _) (by kernel_rfl) rfl rfl (by kernel_rfl) (fun K hK => ?_)
          go_simp
          clear u0 u1
          rw [((unhide HS8).at 0 rfl).set1]
          have HS9 := hide (((unhide HS8)).set (nz1 _ _ _) #[.slice a5 l5 c5])
          clear HS8
          generalize X22.setRow g6 #[.slice a5 l5 c5] = X23 at *
          refine hK _ _ (⟨((unhide HS9).at 4 rfl).ub.c 0 _ rfl, ((unhide HS9).at 4 rfl).ub.c 1 _ rfl, ((unhide HS9).at 2 rfl).ub.c 0 _ rfl, ((unhide HS9).at 2 rfl).ub.c 1 _ rfl⟩) ?_
          clear hK K
          have u0 := ((unhide HS9).at 1 rfl).ub.c 0 _ rfl
          have u1 := ((unhide HS9).at 1 rfl).ub.f 0 (.slice none 0 0) rfl
          refine wpR_late (i := 13) (o := _) (by kernel_rfl) rfl rfl (by kernel_rfl) (fun K hK => ?_)
          go_simp
          clear u0 u1
          rw [((unhide HS9).at 1 rfl).set1]
          have HS10 := hide (((unhide HS9).rot).set (nz1 _ _ _) #[.slice a6 l6 c6])
          clear HS9
          generalize X23.setRow g7 #[.slice a6 l6 c6] = X24 at *
          refine hK _ _ (⟨((unhide HS10).at 3 rfl).ub.c 0 _ rfl, ((unhide HS10).at 3 rfl).ub.c 1 _ rfl, ((unhide HS10).at 1 rfl).ub.c 0 _ rfl, ((unhide HS10).at 1 rfl).ub.c 1 _ rfl⟩) ?_
          clear hK K
          refine wpR_done (by kernel_rfl) ?_
          go_wp2_with fail
          go_meet
          have HS11 := hide (((unhide HS10).rot.rot.rot).tail)
          clear HS10
          exact ⟨g6, g7, a5, l5, c5, a6, l6, c6, rfl, rfl, hide (((unhide HS11).sw).first 3)⟩
        · go_simp
          have HS7 := hide ((unhide HS6).new #[.slice none 0 0] 51)
          clear HS6
          generalize X20.alloc (.cells #[.slice none 0 0] 51) = X25 at *
          generalize X20.heap.size = g6 at *
          refine hK _ _ ⟨trivial, ⟨((unhide HS7).at 4 rfl).ub.c 0 _ rfl, ((unhide HS7).at 4 rfl).ub.c 1 _ rfl, ((unhide HS7).at 2 rfl).ub.c 0 _ rfl, ((unhide HS7).at 2 rfl).ub.c 1 _ rfl⟩⟩ ?_
          clear hK K
          refine wpR_op (i := 9) (o := _) (by kernel_rfl) rfl rfl (fun K hK => ?_)
          go_simp
          refine (mulB _ _ a q (a * q) k _ ((unhide HS7).bgt 2 rfl) ((unhide HS7).bgt 3 rfl) (by have := unhide HK; omega) (unhide HL).2.2.1 (unhide HL).2.1 rfl).mono ?_
          rintro e X26 ⟨a6, l6, c6, rfl, hv, hb⟩
          have HS8 := hide (((unhide HS7).later hb).push hv)
          clear HS7
          clear hv hb
          refine hK _ _ ⟨trivial, ⟨((unhide HS8).at 4 rfl).ub.c 0 _ rfl, ((unhide HS8).at 4 rfl).ub.c 1 _ rfl, ((unhide HS8).at 2 rfl).ub.c 0 _ rfl, ((unhide HS8).at 2 rfl).ub.c 1 _ rfl⟩⟩ ?_
          clear hK K
          have u0 := ((unhide HS8).at 0 rfl).ub.c 0 _ rfl
          have u1 := ((unhide HS8).at 0 rfl).ub.f 0 (.slice none 0 0) rfl
          refine wpR_late (i := 12) (o := _) (by kernel_rfl) rfl rfl (by kernel_rfl) (fun K hK => ?_)
          go_simp
          clear u0 u1
          rw [((unhide HS8).at 0 rfl).set1]
          have HS9 := hide (((unhide HS8)).set (nz1 _ _ _) #[.slice a5 l5 c5])
          clear HS8
          generalize X26.setRow g6 #[.slice a5 l5 c5] = X27 at *
          refine hK _ _ (⟨((unhide HS9).at 4 rfl).ub.c 0 _ rfl, ((unhide HS9).at 4 rfl).ub.c 1 _ rfl, ((unhide HS9).at 2 rfl).ub.c 0 _ rfl, ((unhide HS9).at 2 rfl).ub.c 1 _ rfl⟩) ?_
          clear hK K
          have u0 := ((unhide HS9).at 1 rfl).ub.c 0 _ rfl
          have u1 := ((unhide HS9).at 1 rfl).ub.f 0 (.slice none 0 0) rfl
          refine wpR_late (i := 13) (o := _) (by kernel_rfl) rfl rfl (by kernel_rfl) (fun K hK => ?_)
          go_simp
          clear u0 u1
          rw [((unhide HS9).at 1 rfl).set1]
          have HS10 := hide (((unhide HS9).rot).set (nz1 _ _ _) #[.slice a6 l6 c6])
          clear HS9
          generalize X27.setRow g7 #[.slice a6 l6 c6] = X28 at *
          refine hK _ _ (⟨((unhide HS10).at 3 rfl).ub.c 0 _ rfl, ((unhide HS10).at 3 rfl).ub.c 1 _ rfl, ((unhide HS10).at 1 rfl).ub.c 0 _ rfl, ((unhide HS10).at 1 rfl).ub.c 1 _ rfl⟩) ?_
          clear hK K
          refine wpR_done (by kernel_rfl) ?_
          go_wp2_with fail
          go_meet
          have HS11 := hide (((unhide HS10).rot.rot.rot).tail)
          clear HS10
          exact ⟨g6, g7, a5, l5, c5, a6, l6, c6, rfl, rfl, hide (((unhide HS11).sw).first 3)⟩
    · go_simp
      have HS5 := hide ((unhide HS4).new #[.slice none 0 0] 51)
      clear HS4
      generalize X0.alloc (.cells #[.slice none 0 0] 51) = X29 at *
      generalize X0.heap.size = g6 at *
      refine hK _ _ ⟨trivial, ⟨((unhide HS5).at 3 rfl).ub.c 0 _ rfl, ((unhide HS5).at 3 rfl).ub.c 1 _ rfl, ((unhide HS5).at 1 rfl).ub.c 0 _ rfl, ((unhide HS5).at 1 rfl).ub.c 1 _ rfl⟩⟩ ?_
      clear hK K
      refine wpR_two (i := 4) (j := 11) (by kernel_rfl) rfl rfl rfl rfl (fun K hK => ?_) (fun K hK => ?_) 
      · go_simp
        refine (mulB _ _ p c (p * c) k _ ((unhide HS5).bgt 3 rfl) ((unhide HS5).bgt 0 rfl) (by have := unhide HK; omega) (unhide HL).1 (unhide HL).2.2.2 rfl).mono ?_
        rintro e X30 ⟨a5, l5, c5, rfl, hv, hb⟩
        have HS6 := hide (((unhide HS5).later hb).push hv)
        clear HS5
        clear hv hb
        refine hK _ _ ⟨trivial, ⟨((unhide HS6).at 3 rfl).ub.c 0 _ rfl, ((unhide HS6).at 3 rfl).ub.c 1 _ rfl, ((unhide HS6).at 1 rfl).ub.c 0 _ rfl, ((unhide HS6).at 1 rfl).ub.c 1 _ rfl⟩⟩ ?_
        clear hK K
        refine wpR_two (i := 9) (j := 11) (by kernel_rfl) rfl rfl rfl rfl (fun K hK => ?_) (fun K hK => ?_) 
        · go_simp
          refine (mulB _ _ a q (a * q) k _ ((unhide HS6).bgt 2 rfl) ((unhide HS6).bgt 3 rfl) (by have := unhide HK; omega) (unhide HL).2.2.1 (unhide HL).2.1 rfl).mono ?_
          rintro e X31 ⟨a6, l6, c6, rfl, hv, hb⟩
          have HS7 := hide (((unhide HS6).later hb).push hv)
          clear HS6
          clear hv hb
          refine hK _ _ ⟨trivial, ⟨((unhide HS7).at 3 rfl).ub.c 0 _ rfl, ((unhide HS7).at 3 rfl).ub.c 1 _ rfl, ((unhide HS7).at 1 rfl).ub.c 0 _ rfl, ((unhide HS7).at 1 rfl).ub.c 1 _ rfl⟩⟩ ?_
          clear hK K
          refine wpR_op (i := 11) (o := _) (by kernel_rfl) rfl rfl (fun K hK => ?_)
          go_simp
          have HS8 := hide ((unhide HS7).new #[.slice none 0 0] 51)
          clear HS7
          generalize X31.alloc (.cells #[.slice none 0 0] 51) = X32 at *
          generalize X31.heap.size = g7 at *
          refine hK _ _ ⟨trivial, ⟨((unhide HS8).at 4 rfl).ub.c 0 _ rfl, ((unhide HS8).at 4 rfl).ub.c 1 _ rfl, ((unhide HS8).at 2 rfl).ub.c 0 _ rfl, ((unhide HS8).at 2 rfl).ub.c 1 _ rfl⟩⟩ ?_
          clear hK K
          have u0 := ((unhide HS8).at 1 rfl).ub.c 0 _ rfl
          have u1 := ((unhide HS8).at 1 rfl).ub.f 0 (.slice none 0 0) rfl
          refine wpR_late (i := 12) (o := _) (by kernel_rfl) rfl rfl (by kernel_rfl) (fun K hK => ?_)
          go_simp
          clear u0 u1
          rw [((unhide HS8).at 1 rfl).set1]
          have HS9 := hide (((unhide HS8).rot).set (nz1 _ _ _) #[.slice a5 l5 c5])
          clear HS8
          generalize X32.setRow g6 #[.slice a5 l5 c5] = X33 at *
          refine hK _ _ (⟨((unhide HS9).at 3 rfl).ub.c 0 _ rfl, ((unhide HS9).at 3 rfl).ub.c 1 _ rfl, ((unhide HS9).at 1 rfl).ub.c 0 _ rfl, ((unhide HS9).at 1 rfl).ub.c 1 _ rfl⟩) ?_
          clear hK K
          have u0 := ((unhide HS9).at 4 rfl).ub.c 0 _ rfl
          have u1 := ((unhide HS9).at 4 rfl).ub.f 0 (.slice none 0 0) rfl
          refine wpR_late (i := 13) (o := _) (by kernel_rfl) rfl rfl (by kernel_rfl) (fun K hK => ?_)
          go_simp
          clear u0 u1
          rw [((unhide HS9).at 4 rfl).set1]
          have HS10 := hide (((unhide HS9).rot.rot.rot.rot).set (nz1 _ _ _) #[.slice a6 l6 c6])
          clear HS9
          generalize X33.setRow g7 #[.slice a6 l6 c6] = X34 at *
          refine hK _ _ (⟨((unhide HS10).at 4 rfl).ub.c 0 _ rfl, ((unhide HS10).at 4 rfl).ub.c 1 _ rfl, ((unhide HS10).at 2 rfl).ub.c 0 _ rfl, ((unhide HS10).at 2 rfl).ub.c 1 _ rfl⟩) ?_
          clear hK K
          refine wpR_done (by kernel_rfl) ?_
          go_wp2_with fail
          go_meet
          have HS11 := hide (((unhide HS10).rot.rot.rot.rot).tail)
          clear HS10
          exact ⟨g6, g7, a5, l5, c5, a6, l6, c6, rfl, rfl, hide (((unhide HS11)).first 3)⟩
        · go_simp
          have HS7 := hide ((unhide HS6).new #[.slice none 0 0] 51)
          clear HS6
          generalize X30.alloc (.cells #[.slice none 0 0] 51) = X35 at *
          generalize X30.heap.size = g7 at *
          refine hK _ _ ⟨trivial, ⟨((unhide HS7).at 4 rfl).ub.c 0 _ rfl, ((unhide HS7).at 4 rfl).ub.c 1 _ rfl, ((unhide HS7).at 2 rfl).ub.c 0 _ rfl, ((unhide HS7).at 2 rfl).ub.c 1 _ rfl⟩⟩ ?_
          clear hK K
          refine wpR_op (i := 9) (o := _) (by kernel_rfl) rfl rfl (fun K hK => ?_)
          go_simp
          refine (mulB _ _ a q (a * q) k _ ((unhide HS7).bgt 2 rfl) ((unhide HS7).bgt 3 rfl) (by have := unhide HK; omega) (unhide HL).2.2.1 (unhide HL).2.1 rfl).mono ?_
          rintro e X36 ⟨a6, l6, c6, rfl, hv, hb⟩
          have HS8 := hide (((unhide HS7).later hb).push hv)
          clear HS7
          clear hv hb
          refine hK _ _ ⟨trivial, ⟨((unhide HS8).at 4 rfl).ub.c 0 _ rfl, ((unhide HS8).at 4 rfl).ub.c 1 _ rfl, ((unhide HS8).at 2 rfl).ub.c 0 _ rfl, ((unhide HS8).at 2 rfl).ub.c 1 _ rfl⟩⟩ ?_
          clear hK K
          have u0 := ((unhide HS8).at 1 rfl).ub.c 0 _ rfl
          have u1 := ((unhide HS8).at 1 rfl).ub.f 0 (.slice none 0 0) rfl
          refine wpR_late (i := 12) (o := _) (by kernel_rfl) rfl rfl (by kernel_rfl) (fun K hK => ?_)
          go_simp
          clear u0 u1
          rw [((unhide HS8).at 1 rfl).set1]
          have HS9 := hide (((unhide HS8).rot).set (nz1 _ _ _) #[.slice a5 l5 c5])
          clear HS8
          generalize X36.setRow g6 #[.slice a5 l5 c5] = X37 at *
          refine hK _ _ (⟨((unhide HS9).at 3 rfl).ub.c 0 _ rfl, ((unhide HS9).at 3 rfl).ub.c 1 _ rfl, ((unhide HS9).at 1 rfl).ub.c 0 _ rfl, ((unhide HS9).at 1 rfl).ub.c 1 _ rfl⟩) ?_
          clear hK K
          have u0 := ((unhide HS9).at 4 rfl).ub.c 0 _ rfl
          have u1 := ((unhide HS9).at 4 rfl).ub.f 0 (.slice none 0 0) rfl
          refine wpR_late (i := 13) (o := _) (by kernel_rfl) rfl rfl (by kernel_rfl) (fun K hK => ?_)
          go_simp
          clear u0 u1
          rw [((unhide HS9).at 4 rfl).set1]
          have HS10 := hide (((unhide HS9).rot.rot.rot.rot).set (nz1 _ _ _) #[.slice a6 l6 c6])
          clear HS9
          generalize X37.setRow g7 #[.slice a6 l6 c6] = X38 at *
          refine hK _ _ (⟨((unhide HS10).at 4 rfl).ub.c 0 _ rfl, ((unhide HS10).at 4 rfl).ub.c 1 _ rfl, ((unhide HS10).at 2 rfl).ub.c 0 _ rfl, ((unhide HS10).at 2 rfl).ub.c 1 _ rfl⟩) ?_
          clear hK K
          refine wpR_done (by kernel_rfl) ?_
          go_wp2_with fail
          go_meet
          have HS11 := hide (((unhide HS10).rot.rot.rot.rot).tail)
          clear HS10
          exact ⟨g6, g7, a5, l5, c5, a6, l6, c6, rfl, rfl, hide (((unhide HS11)).first 3)⟩
      · go_simp
        have HS6 := hide ((unhide HS5).new #[.slice none 0 0] 51)
        clear HS5
        generalize X29.alloc (.cells #[.slice none 0 0] 51) = X39 at *
        generalize X29.heap.size = g7 at *
        refine hK _ _ ⟨trivial, ⟨((unhide HS6).at 4 rfl).ub.c 0 _ rfl, ((unhide HS6).at 4 rfl).ub.c 1 _ rfl, ((unhide HS6).at 2 rfl).ub.c 0 _ rfl, ((unhide HS6).at 2 rfl).ub.c 1 _ rfl⟩⟩ ?_
        clear hK K
        refine wpR_op (i := 4) (o := _) (by kernel_rfl) rfl rfl (fun K hK => ?_)
        go_simp
        refine (mulB _ _ p c (p * c) k _ ((unhide HS6).bgt 3 rfl) ((unhide HS6).bgt 0 rfl) (by have := unhide HK; omega) (unhide HL).1 (unhide HL).2.2.2 rfl).mono ?_
        rintro e X40 ⟨a5, l5, c5, rfl, hv, hb⟩
        have HS7 := hide (((unhide HS6).later hb).push hv)
        clear HS6
        clear hv hb
        refine hK _ _ ⟨trivial, ⟨((unhide HS7).at 4 rfl).ub.c 0 _ rfl, ((unhide HS7).at 4 rfl).ub.c 1 _ rfl, ((unhide HS7).at 2 rfl).ub.c 0 _ rfl, ((unhide HS7).at 2 rfl).ub.c 1 _ rfl⟩⟩ ?_
        clear hK K
        refine wpR_op (i := 9) (o := _) (by kernel_rfl) rfl rfl (fun K hK => ?_)
        go_simp
        refine (mulB _ _ a q (a * q) k _ ((unhide HS7).bgt 2 rfl) ((unhide HS7).bgt 3 rfl) (by have := unhide HK; omega) (unhide HL).2.2.1 (unhide HL).2.1 rfl).mono ?_
        rintro e X41 ⟨a6, l6, c6, rfl, hv, hb⟩
        have HS8 := hide (((unhide HS7).later hb).push hv)
        clear HS7
        clear hv hb
        refine hK _ _ ⟨trivial, ⟨((unhide HS8).at 4 rfl).ub.c 0 _ rfl, ((unhide HS8).at 4 rfl).ub.c 1 _ rfl, ((unhide HS8).at 2 rfl).ub.c 0 _ rfl, ((unhide HS8).at 2 rfl).ub.c 1 _ rfl⟩⟩ ?_
        clear hK K
        have u0 := ((unhide HS8).at 1 rfl).ub.c 0 _ rfl
        have u1 := ((unhide HS8).at 1 rfl).ub.f 0 (.slice none 0 0) rfl
        refine wpR_late (i := 12) (o := _) (by kernel_rfl) rfl rfl (by kernel_rfl) (fun K hK => ?_)
        go_simp
        clear u0 u1
        rw [((unhide HS8).at 1 rfl).set1]
        have HS9 := hide (((unhide HS8).rot).set (nz1 _ _ _) #[.slice a5 l5 c5])
        clear HS8
        generalize X41.setRow g6 #[.slice a5 l5 c5] = X42 at *
        refine hK _ _ (⟨((unhide HS9).at 3 rfl).ub.c 0 _ rfl, ((unhide HS9).at 3 rfl).ub.c 1 _ rfl, ((unhide HS9).at 1 rfl).ub.c 0 _ rfl, ((unhide HS9).at 1 rfl).ub.c 1 _ rfl⟩) ?_
        clear hK K
        have u0 := ((unhide HS9).at 4 rfl).ub.c 0 _ rfl
        have u1 := ((unhide HS9).at 4 rfl).ub.f 0 (.slice none 0 0) rfl
        refine wpR_late (i := 13) (o := _) (by kernel_rfl) rfl rfl (by kernel_rfl) (fun K hK => ?_)
        go_simp
        clear u0 u1
        rw [((unhide HS9).at 4 rfl).set1]
        have HS10 := hide (((unhide HS9).rot.rot.rot.rot).set (nz1 _ _ _) #[.slice a6 l6 c6])
        clear HS9
        generalize X42.setRow g7 #[.slice a6 l6 c6] = X43 at *
        refine hK _ _ (⟨((unhide HS10).at 4 rfl).ub.c 0 _ rfl, ((unhide HS10).at 4 rfl).ub.c 1 _ rfl, ((unhide HS10).at 2 rfl).ub.c 0 _ rfl, ((unhide HS10).at 2 rfl).ub.c 1 _ rfl⟩) ?_
        clear hK K
        refine wpR_done (by kernel_rfl) ?_
        go_wp2_with fail
        go_meet
        have HS11 := hide (((unhide HS10).rot.rot.rot.rot).tail)
        clear HS10
        exact ⟨g6, g7, a5, l5, c5, a6, l6, c6, rfl, rfl, hide (((unhide HS11)).first 3)⟩
    · go_simp
      have HS5 := hide ((unhide HS4).new #[.slice none 0 0] 51)
      clear HS4
      generalize X0.alloc (.cells #[.slice none 0 0] 51) = X44 at *
      generalize X0.heap.size = g7 at *
      refine hK _ _ ⟨trivial, ⟨((unhide HS5).at 3 rfl).ub.c 0 _ rfl, ((unhide HS5).at 3 rfl).ub.c 1 _ rfl, ((unhide HS5).at 1 rfl).ub.c 0 _ rfl, ((unhide HS5).at 1 rfl).ub.c 1 _ rfl⟩⟩ ?_
      clear hK K
      refine wpR_two (i := 4) (j := 10) (by kernel_rfl) rfl rfl rfl rfl (fun K hK => ?_) (fun K hK => ?_) 
      · go_simp
        refine (mulB _ _ p c (p * c) k _ ((unhide HS5).bgt 3 rfl) ((unhide HS5).bgt 0 rfl) (by have := unhide HK; omega) (unhide HL).1 (unhide HL).2.2.2 rfl).mono ?_
        rintro e X45 ⟨a5, l5, c5, rfl, hv, hb⟩
        have HS6 := hide (((unhide HS5).later hb).push hv)
        clear HS5
        clear hv hb
        refine hK _ _ ⟨trivial, ⟨((unhide HS6).at 3 rfl).ub.c 0 _ rfl, ((unhide HS6).at 3 rfl).ub.c 1 _ rfl, ((unhide HS6).at 1 rfl).ub.c 0 _ rfl, ((unhide HS6).at 1 rfl).ub.c 1 _ rfl⟩⟩ ?_
        clear hK K
        refine wpR_two (i := 9) (j := 10) (by kernel_rfl) rfl rfl rfl rfl (fun K hK => ?_) (fun K hK => ?_) 
        · go_simp
          refine (mulB _ _ a q (a * q) k _ ((unhide HS6).bgt 2 rfl) ((unhide HS6).bgt 3 rfl) (by have := unhide HK; omega) (unhide HL).2.2.1 (unhide HL).2.1 rfl).mono ?_
          rintro e X46 ⟨a6, l6, c6, rfl, hv, hb⟩
          have HS7 := hide (((unhide HS6).later hb).push hv)
          clear HS6
          clear hv hb
          refine hK _ _ ⟨trivial, ⟨((unhide HS7).at 3 rfl).ub.c 0 _ rfl, ((unhide HS7).at 3 rfl).ub.c 1 _ rfl, ((unhide HS7).at 1 rfl).ub.c 0 _ rfl, ((unhide HS7).at 1 rfl).ub.c 1 _ rfl⟩⟩ ?_
          clear hK K
          refine wpR_op (i := 10) (o := _) (by kernel_rfl) rfl rfl (fun K hK => ?_)
          go_simp
          have HS8 := hide ((unhide HS7).new #[.slice none 0 0] 51)
          clear HS7
          generalize X46.alloc (.cells #[.slice none 0 0] 51) = X47 at *
          generalize X46.heap.size = g6 at *
          refine hK _ _ ⟨trivial, ⟨((unhide HS8).at 4 rfl).ub.c 0 _ rfl, ((unhide HS8).at 4 rfl).ub.c 1 _ rfl, ((unhide HS8).at 2 rfl).ub.c 0 _ rfl, ((unhide HS8).at 2 rfl).ub.c 1 _ rfl⟩⟩ ?_
          clear hK K
          have u0 := ((unhide HS8).at 0 rfl).ub.c 0 _ rfl
          have u1 := ((unhide HS8).at 0 rfl).ub.f 0 (.slice none 0 0) rfl
          refine wpR_late (i := 12) (o := _) (by kernel_rfl) rfl rfl (by kernel_rfl) (fun K hK => ?_)
          go_simp
          clear u0 u1
          rw [((unhide HS8).at 0 rfl).set1]
          have HS9 := hide (((unhide HS8)).set (nz1 _ _ _) #[.slice a5 l5 c5])
          clear HS8
          generalize X47.setRow g6 #[.slice a5 l5 c5] = X48 at *
          refine hK _ _ (⟨((unhide HS9).at 4 rfl).ub.c 0 _ rfl, ((unhide HS9).at 4 rfl).ub.c 1 _ rfl, ((unhide HS9).at 2 rfl).ub.c 0 _ rfl, ((unhide HS9).at 2 rfl).ub.c 1 _ rfl⟩) ?_
          clear hK K
          have u0 := ((unhide HS9).at 1 rfl).ub.c 0 _ rfl
          have u1 := ((unhide HS9).at 1 rfl).ub.f 0 (.slice none 0 0) rfl
          refine wpR_late (i := 13) (o := _) (by kernel_rfl) rfl rfl (by kernel_rfl) (fun K hK => ?_)
          go_simp
          clear u0 u1
          rw [((unhide HS9).at 1 rfl).set1]
          have HS10 := hide (((unhide HS9).rot).set (nz1 _ _ _) #[.slice a6 l6 c6])
          clear HS9
          generalize X48.setRow g7 #[.slice a6 l6 c6] = X49 at *
          refine hK _ _ (⟨((unhide HS10).at 3 rfl).ub.c 0 _ rfl, ((unhide HS10).at 3 rfl).ub.c 1 _ rfl, ((unhide HS10).at 1 rfl).ub.c 0 _ rfl, ((unhide HS10).at 1 rfl).ub.c 1 _ rfl⟩) ?_
          clear hK K
          refine wpR_done (by kernel_rfl) ?_
          go_wp2_with fail
          go_meet
          have HS11 := hide (((unhide HS10).rot.rot.rot).tail)
          clear HS10
          exact ⟨g6, g7, a5, l5, c5, a6, l6, c6, rfl, rfl, hide (((unhide HS11).sw).first 3)⟩
        · go_simp
          have HS7 := hide ((unhide HS6).new #[.slice none 0 0] 51)
          clear HS6
          generalize X45.alloc (.cells #[.slice none 0 0] 51) = X50 at *
          generalize X45.heap.size = g6 at *
          refine hK _ _ ⟨trivial, ⟨((unhide HS7).at 4 rfl).ub.c 0 _ rfl, ((unhide HS7).at 4 rfl).ub.c 1 _ rfl, ((unhide HS7).at 2 rfl).ub.c 0 _ rfl, ((unhide HS7).at 2 rfl).ub.c 1 _ rfl⟩⟩ ?_
          clear hK K
          refine wpR_op (i := 9) (o := _) (by kernel_rfl) rfl rfl (fun K hK => ?_)
          go_simp
          refine (mulB _ _ a q (a * q) k _ ((unhide HS7).bgt 2 rfl) ((unhide HS7).bgt 3 rfl) (by have := unhide HK; omega) (unhide HL).2.2.1 (unhide HL).2.1 rfl).mono ?_
          rintro e X51 ⟨a6, l6, c6, rfl, hv, hb⟩
          have HS8 := hide (((unhide HS7).later hb).push hv)
          clear HS7
          clear hv hb
          refine hK _ _ ⟨trivial, ⟨((unhide HS8).at 4 rfl).ub.c 0 _ rfl, ((unhide HS8).at 4 rfl).ub.c 1 _ rfl, ((unhide HS8).at 2 rfl).ub.c 0 _ rfl, ((unhide HS8).at 2 rfl).ub.c 1 _ rfl⟩⟩ ?_
          clear hK K
          have u0 := ((unhide HS8).at 0 rfl).ub.c 0 _ rfl
          have u1 := ((unhide HS8).at 0 rfl).ub.f 0 (.slice none 0 0) rfl
          refine wpR_late (i := 12) (o := _) (by kernel_rfl) rfl rfl (by kernel_rfl) (fun K hK => ?_)
          go_simp
          clear u0 u1
          rw [((unhide HS8).at 0 rfl).set1]
          have HS9 := hide (((unhide HS8)).set (nz1 _ _ _) #[.slice a5 l5 c5])
          clear HS8
          generalize X51.setRow g6 #[.slice a5 l5 c5] = X52 at *
          refine hK _ _ (⟨((unhide HS9).at 4 rfl).ub.c 0 _ rfl, ((unhide HS9).at 4 rfl).ub.c 1 _ rfl, ((unhide HS9).at 2 rfl).ub.c 0 _ rfl, ((unhide HS9).at 2 rfl).ub.c 1 _ rfl⟩) ?_
          clear hK K
          have u0 := ((unhide HS9).at 1 rfl).ub.c 0 _ rfl
          have u1 := ((unhide HS9).at 1 rfl).ub.f 0 (.slice none 0 0) rfl
          refine wpR_late (i := 13) (o := _) (by kernel_rfl) rfl rfl (by kernel_rfl) (fun K hK => ?_)
          go_simp
          clear u0 u1
          rw [((unhide HS9).at 1 rfl).set1]
          have HS10 := hide (((unhide HS9).rot).set (nz1 _ _ _) #[.slice a6 l6 c6])
          clear HS9
          generalize X52.setRow g7 #[.slice a6 l6 c6] = X53 at *
          refine hK _ _ (⟨((unhide HS10).at 3 rfl).ub.c 0 _ rfl, ((unhide HS10).at 3 rfl).ub.c 1 _ rfl, ((unhide HS10).at 1 rfl).ub.c 0 _ rfl, ((unhide HS10).at 1 rfl).ub.c 1 _ rfl⟩) ?_
          clear hK K
          refine wpR_done (by kernel_rfl) ?_
          go_wp2_with fail
          go_meet
          have HS11 := hide (((unhide HS10).rot.rot.rot).tail)
          clear HS10
          exact ⟨g6, g7, a5, l5, c5, a6, l6, c6, rfl, rfl, hide (((unhide HS11).sw).first 3)⟩
      · go_simp
        have HS6 := hide ((unhide HS5).new #[.slice none 0 0] 51)
        clear HS5
        generalize X44.alloc (.cells #[.slice none 0 0] 51) = X54 at *
        generalize X44.heap.size = g6 at *
        refine hK _ _ ⟨trivial, ⟨((unhide HS6).at 4 rfl).ub.c 0 _ rfl, ((unhide HS6).at 4 rfl).ub.c 1 _ rfl, ((unhide HS6).at 2 rfl).ub.c 0 _ rfl, ((unhide HS6).at 2 rfl).ub.c 1 _ rfl⟩⟩ ?_
        clear hK K
        refine wpR_op (i := 4) (o := _) (by kernel_rfl) rfl rfl (fun K hK => ?_)
        go_simp
        refine (mulB _ _ p c (p * c) k _ ((unhide HS6).bgt 3 rfl) ((unhide HS6).bgt 0 rfl) (by have := unhide HK; omega) (unhide HL).1 (unhide HL).2.2.2 rfl).mono ?_
        rintro e X55 ⟨a5, l5, c5, rfl, hv, hb⟩
        have HS7 := hide (((unhide HS6).later hb).push hv)
        clear HS6
        clear hv hb
        refine hK _ _ ⟨trivial, ⟨((unhide HS7).at 4 rfl).ub.c 0 _ rfl, ((unhide HS7).at 4 rfl).ub.c 1 _ rfl, ((unhide HS7).at 2 rfl).ub.c 0 _ rfl, ((unhide HS7).at 2 rfl).ub.c 1 _ rfl⟩⟩ ?_
        clear hK K
        refine wpR_op (i := 9) (o := _) (by kernel_rfl) rfl rfl (fun K hK => ?_)
        go_simp
        refine (mulB _ _ a q (a * q) k _ ((unhide HS7).bgt 2 rfl) ((unhide HS7).bgt 3 rfl) (by have := unhide HK; omega) (unhide HL).2.2.1 (unhide HL).2.1 rfl).mono ?_
        rintro e X56 ⟨a6, l6, c6, rfl, hv, hb⟩
        have HS8 := hide (((unhide HS7).later hb).push hv)
        clear HS7
        clear hv hb
        refine hK _ _ ⟨trivial, ⟨((unhide HS8).at 4 rfl).ub.c 0 _ rfl, ((unhide HS8).at 4 rfl).ub.c 1 _ rfl, ((unhide HS8).at 2 rfl).ub.c 0 _ rfl, ((unhide HS8).at 2 rfl).ub.c 1 _ rfl⟩⟩ ?_
        clear hK K
        have u0 := ((unhide HS8).at 0 rfl).ub.c 0 _ rfl
        have u1 := ((unhide HS8).at 0 rfl).ub.f 0 (.slice none 0 0) rfl
        refine wpR_late (i := 12) (o := _) (by kernel_rfl) rfl rfl (by kernel_rfl) (fun K hK => ?_)
        go_simp
        clear u0 u1
        rw [((unhide HS8).at 0 rfl).set1]
        have HS9 := hide (((unhide HS8)).set (nz1 _ _ _) #[.slice a5 l5 c5])
        clear HS8
        generalize X56.setRow g6 #[.slice a5 l5 c5] = X57 at *
        refine hK _ _ (⟨((unhide HS9).at 4 rfl).ub.c 0 _ rfl, ((unhide HS9).at 4 rfl).ub.c 1 _ rfl, ((unhide HS9).at 2 rfl).ub.c 0 _ rfl, ((unhide HS9).at 2 rfl).ub.c 1 _ rfl⟩) ?_
        clear hK K
        have u0 := ((unhide HS9).at 1 rfl).ub.c 0 _ rfl
        have u1 := ((unhide HS9).at 1 rfl).ub.f 0 (.slice none 0 0) rfl
        refine wpR_late (i := 13) (o := _) (by kernel_rfl) rfl rfl (by kernel_rfl) (fun K hK => ?_)
        go_simp
        clear u0 u1
        rw [((unhide HS9).at 1 rfl).set1]
        have HS10 := hide (((unhide HS9).rot).set (nz1 _ _ _) #[.slice a6 l6 c6])
        clear HS9
        generalize X57.setRow g7 #[.slice a6 l6 c6] = X58 at *
        refine hK _ _ (⟨((unhide HS10).at 3 rfl).ub.c 0 _ rfl, ((unhide HS10).at 3 rfl).ub.c 1 _ rfl, ((unhide HS10).at 1 rfl).ub.c 0 _ rfl, ((unhide HS10).at 1 rfl).ub.c 1 _ rfl⟩) ?_
        clear hK K
        refine wpR_done (by kernel_rfl) ?_
        go_wp2_with fail
        go_meet
        have HS11 := hide (((unhide HS10).rot.rot.rot).tail)
        clear HS10
        exact ⟨g6, g7, a5, l5, c5, a6, l6, c6, rfl, rfl, hide (((unhide HS11).sw).first 3)⟩
  case rest =>
    obtain ⟨g6, g7, a5, l5, c5, a6, l6, c6, rfl, rfl, HS0⟩ := hcut
    generalize wc = Y0 at *
    have u6 := ((unhide HS0).at 1 rfl).ub.c 0 _ rfl
    have u7 := ((unhide HS0).at 0 rfl).ub.c 0 _ rfl
    have hcmp : (Cub.cmpN (p * c) (a * q) < 0) = (p * c < a * q) := by unfold Cub.cmpN; split <;> simp_all <;> split <;> omega
    by_cases hlt : p * c < a * q
    · have hD := unhide HDD
      rw [if_pos hlt] at hD
      have HD2 := hide hD
      clear hD HDD
      rw [eq_true hlt] at hcmp
      go_upto_region 4 with (have hchk := HS0; clear hchk; go_at_call 124; go_must (refine (cmp_any _ _ (p * c) (a * q) _ ((unhide HS0).bgt 1 rfl) ((unhide HS0).bgt 0 rfl)).mono ?_; rintro e Y1 ⟨rfl, hb⟩; have HS1 := hide ((unhide HS0).later hb); clear HS0; clear hb u6 u7))
      have u6 := ((unhide HS1).at 1 rfl).ub.c 0 _ rfl
      have u7 := ((unhide HS1).at 0 rfl).ub.c 0 _ rfl
      have f6 := ((unhide HS1).at 1 rfl).ub.f 0 (.slice a5 l5 c5) rfl
      have f7 := ((unhide HS1).at 0 rfl).ub.f 0 (.slice a6 l6 c6) rfl
      have hne : ¬ g6 = g7 := fun h => (List.pairwise_cons.1 (unhide HS1).ne).1 (g6, _, _) List.mem_cons_self h.symm
      go_upto_region 5 with fail
      clear u6 u7 f6 f7
      rw [((unhide HS1).at 1 rfl).set1]
      have HS2 := hide (((unhide HS1).rot).set (nz1 _ _ _) #[.slice a6 l6 c6])
      clear HS1
      generalize Y1.setRow g6 #[.slice a6 l6 c6] = Y2 at *
      rw [((unhide HS2).at 3 rfl).set1]
      have HS3 := hide (((unhide HS2).rot.rot.rot).set (nz1 _ _ _) #[.slice a5 l5 c5])
      clear HS2
      generalize Y2.setRow g7 #[.slice a5 l5 c5] = Y3 at *
      refine region_reads 6 (fun _ => True) (fun W' => W'.cell? ⟨g6, 0, none⟩ = some (.slice a6 l6 c6) ∧ W'.cell? ⟨g7, 0, none⟩ = some (.slice a5 l5 c5) ∧ W'.cell? ⟨g5, 1, none⟩ = some (.slice a4 l4 c4)) 7 rfl (by kernel_rfl) ?_
      have HS4 := hide ((unhide HS3).later ((Below.refl _ _).drew))
      clear HS3
      generalize Y3.drew = Y4 at *
      refine wpR_take7 (i := 0) (oi := _) (v := .agg #[.slice a6 l6 c6]) rfl (by kernel_rfl) (by kernel_rfl) (by kernel_rfl) (by kernel_rfl) (fun _ _ _ h => h) (Or.inl ⟨by rfl, ?_⟩) ⟨trivial, ⟨((unhide HS4).at 1 rfl).ub.c 0 _ rfl, ((unhide HS4).at 0 rfl).ub.c 0 _ rfl, ((unhide HS4).at 2 rfl).ub.c 1 _ rfl⟩⟩ ?_
      · intro W' hW
        go_split_ands
        go_simp
      refine wpR_take7 (i := 1) (oi := _) (v := .agg #[.slice a5 l5 c5]) rfl (by kernel_rfl) (by kernel_rfl) (by kernel_rfl) (by kernel_rfl) (fun _ _ _ h => h) (Or.inl ⟨by rfl, ?_⟩) ⟨trivial, ⟨((unhide HS4).at 1 rfl).ub.c 0 _ rfl, ((unhide HS4).at 0 rfl).ub.c 0 _ rfl, ((unhide HS4).at 2 rfl).ub.c 1 _ rfl⟩⟩ ?_
      · intro W' hW
        go_split_ands
        go_simp
      refine wpR_take7 (i := 3) (oi := _) (v := .pointer (some ⟨g5, 1, none⟩)) rfl (by kernel_rfl) (by kernel_rfl) (by kernel_rfl) (by kernel_rfl) (fun _ _ _ h => h) (Or.inl ⟨by rfl, ?_⟩) ⟨trivial, ⟨((unhide HS4).at 1 rfl).ub.c 0 _ rfl, ((unhide HS4).at 0 rfl).ub.c 0 _ rfl, ((unhide HS4).at 2 rfl).ub.c 1 _ rfl⟩⟩ ?_
      · intro W' hW
        go_split_ands
        go_simp
      refine wpR_take7 (i := 4) (oi := _) (v := .agg #[.slice a4 l4 c4]) rfl (by kernel_rfl) (by kernel_rfl) (by kernel_rfl) (by kernel_rfl) (fun _ _ _ h => h) (Or.inl ⟨by rfl, ?_⟩) ⟨trivial, ⟨((unhide HS4).at 1 rfl).ub.c 0 _ rfl, ((unhide HS4).at 0 rfl).ub.c 0 _ rfl, ((unhide HS4).at 2 rfl).ub.c 1 _ rfl⟩⟩ ?_
      · intro W' hW
        go_split_ands
        go_simp
      refine wpR_op (i := 2) (o := _) (by kernel_rfl) rfl rfl (fun K hK => ?_)
      go_simp
      refine (subB _ _ (a * q) (p * c) (k + k) _ ((unhide HS4).bgt 0 rfl) ((unhide HS4).bgt 1 rfl) (unhide HLS).1 (unhide HLS).2.2 (by omega)).mono ?_
      rintro e Y5 ⟨a8, l8, c8, rfl, hv, hb⟩
      have HS5 := hide (((unhide HS4).later hb).push hv)
      clear HS4
      clear hv hb
      refine hK _ _ ⟨trivial, ⟨((unhide HS5).at 1 rfl).ub.c 0 _ rfl, ((unhide HS5).at 0 rfl).ub.c 0 _ rfl, ((unhide HS5).at 2 rfl).ub.c 1 _ rfl⟩⟩ ?_
      clear hK K
      refine wpR_op (i := 5) (o := _) (by kernel_rfl) rfl rfl (fun K hK => ?_)
      go_simp
      refine hK _ _ ⟨trivial, ⟨((unhide HS5).at 1 rfl).ub.c 0 _ rfl, ((unhide HS5).at 0 rfl).ub.c 0 _ rfl, ((unhide HS5).at 2 rfl).ub.c 1 _ rfl⟩⟩ ?_
      clear hK K
      refine wpR_late (i := 6) (o := _) (by kernel_rfl) rfl rfl (by kernel_rfl) (fun K hK => ?_)
      refine wp_store_row 54 (.tmp 4) (.tmp 31) rfl (w.heap.size + 1) #[.slice a8 l8 c8, .slice a4 l4 c4] rfl rfl 54 _ ((unhide HS5).at 3 rfl) (by rw [info59]; rfl) rfl (by kernel_rfl) ?_
      have HS6 := hide (((unhide HS5).rot.rot.rot).set (nz2 _ _ _ _ _ _) #[.slice a8 l8 c8, .slice a4 l4 c4])
      clear HS5
      generalize Y5.setRow (w.heap.size + 1) #[.slice a8 l8 c8, .slice a4 l4 c4] = Y6 at *
      refine hK _ _ (⟨((unhide HS6).at 2 rfl).ub.c 0 _ rfl, ((unhide HS6).at 1 rfl).ub.c 0 _ rfl, ((unhide HS6).at 3 rfl).ub.c 1 _ rfl⟩) ?_
      clear hK K
      refine wpR_done (by kernel_rfl) ?_
      go_wp2_with fail
      exact bodyPost_ret (v := .agg #[.slice a8 l8 c8, .slice a4 l4 c4]) (res59 Tryz.results126 _ _ (w.heap.size + 1) _ rfl rfl ((unhide HS6).at 0 rfl)) rfl ⟨_, rfl, IsSz.mk (by rw [unhide HD2]; exact ((unhide HS6).bgt 0 rfl)) ((unhide HS6).bgt 3 rfl), (unhide HS6).below⟩
    · have hD := unhide HDD
      rw [if_neg hlt] at hD
      have HD2 := hide hD
      clear hD HDD
      rw [eq_false hlt] at hcmp
      go_upto_region 5 with (have hchk := HS0; clear hchk; go_at_call 124; go_must (refine (cmp_any _ _ (p * c) (a * q) _ ((unhide HS0).bgt 1 rfl) ((unhide HS0).bgt 0 rfl)).mono ?_; rintro e Y1 ⟨rfl, hb⟩; have HS1 := hide ((unhide HS0).later hb); clear HS0; clear hb u6 u7))
      refine region_reads 6 (fun _ => True) (fun W' => W'.cell? ⟨g6, 0, none⟩ = some (.slice a5 l5 c5) ∧ W'.cell? ⟨g7, 0, none⟩ = some (.slice a6 l6 c6) ∧ W'.cell? ⟨g5, 1, none⟩ = some (.slice a4 l4 c4)) 7 rfl (by kernel_rfl) ?_
      have HS2 := hide ((unhide HS1).later ((Below.refl _ _).drew))
      clear HS1
      generalize Y1.drew = Y4 at *
      refine wpR_take7 (i := 0) (oi := _) (v := .agg #[.slice a5 l5 c5]) rfl (by kernel_rfl) (by kernel_rfl) (by kernel_rfl) (by kernel_rfl) (fun _ _ _ h => h) (Or.inl ⟨by rfl, ?_⟩) ⟨trivial, ⟨((unhide HS2).at 1 rfl).ub.c 0 _ rfl, ((unhide HS2).at 0 rfl).ub.c 0 _ rfl, ((unhide HS2).at 2 rfl).ub.c 1 _ rfl⟩⟩ ?_
      · intro W' hW
        go_split_ands
        go_simp
      refine wpR_take7 (i := 1) (oi := _) (v := .agg #[.slice a6 l6 c6]) rfl (by kernel_rfl) (by kernel_rfl) (by kernel_rfl) (by kernel_rfl) (fun _ _ _ h => h) (Or.inl ⟨by rfl, ?_⟩) ⟨trivial, ⟨((unhide HS2).at 1 rfl).ub.c 0 _ rfl, ((unhide HS2).at 0 rfl).ub.c 0 _ rfl, ((unhide HS2).at 2 rfl).ub.c 1 _ rfl⟩⟩ ?_
      · intro W' hW
        go_split_ands
        go_simp
      refine wpR_take7 (i := 3) (oi := _) (v := .pointer (some ⟨g5, 1, none⟩)) rfl (by kernel_rfl) (by kernel_rfl) (by kernel_rfl) (by kernel_rfl) (fun _ _ _ h => h) (Or.inl ⟨by rfl, ?_⟩) ⟨trivial, ⟨((unhide HS2).at 1 rfl).ub.c 0 _ rfl, ((unhide HS2).at 0 rfl).ub.c 0 _ rfl, ((unhide HS2).at 2 rfl).ub.c 1 _ rfl⟩⟩ ?_
      · intro W' hW
        go_split_ands
        go_simp
      refine wpR_take7 (i := 4) (oi := _) (v := .agg #[.slice a4 l4 c4]) rfl (by kernel_rfl) (by kernel_rfl) (by kernel_rfl) (by kernel_rfl) (fun _ _ _ h => h) (Or.inl ⟨by rfl, ?_⟩) ⟨trivial, ⟨((unhide HS2).at 1 rfl).ub.c 0 _ rfl, ((unhide HS2).at 0 rfl).ub.c 0 _ rfl, ((unhide HS2).at 2 rfl).ub.c 1 _ rfl⟩⟩ ?_
      · intro W' hW
        go_split_ands
        go_simp
      refine wpR_op (i := 2) (o := _) (by kernel_rfl) rfl rfl (fun K hK => ?_)
      go_simp
      refine (subB _ _ (p * c) (a * q) (k + k) _ ((unhide HS2).bgt 1 rfl) ((unhide HS2).bgt 0 rfl) (unhide HLS).1 (unhide HLS).2.1 (by omega)).mono ?_
      rintro e Y5 ⟨a8, l8, c8, rfl, hv, hb⟩
      have HS3 := hide (((unhide HS2).later hb).push hv)
      clear HS2
      clear hv hb
      refine hK _ _ ⟨trivial, ⟨((unhide HS3).at 1 rfl).ub.c 0 _ rfl, ((unhide HS3).at 0 rfl).ub.c 0 _ rfl, ((unhide HS3).at 2 rfl).ub.c 1 _ rfl⟩⟩ ?_
      clear hK K
      refine wpR_op (i := 5) (o := _) (by kernel_rfl) rfl rfl (fun K hK => ?_)
      go_simp
      refine hK _ _ ⟨trivial, ⟨((unhide HS3).at 1 rfl).ub.c 0 _ rfl, ((unhide HS3).at 0 rfl).ub.c 0 _ rfl, ((unhide HS3).at 2 rfl).ub.c 1 _ rfl⟩⟩ ?_
      clear hK K
      refine wpR_late (i := 6) (o := _) (by kernel_rfl) rfl rfl (by kernel_rfl) (fun K hK => ?_)
      refine wp_store_row 54 (.tmp 4) (.tmp 31) rfl (w.heap.size + 1) #[.slice a8 l8 c8, .slice a4 l4 c4] rfl rfl 54 _ ((unhide HS3).at 3 rfl) (by rw [info59]; rfl) rfl (by kernel_rfl) ?_
      have HS4 := hide (((unhide HS3).rot.rot.rot).set (nz2 _ _ _ _ _ _) #[.slice a8 l8 c8, .slice a4 l4 c4])
      clear HS3
      generalize Y5.setRow (w.heap.size + 1) #[.slice a8 l8 c8, .slice a4 l4 c4] = Y6 at *
      refine hK _ _ (⟨((unhide HS4).at 2 rfl).ub.c 0 _ rfl, ((unhide HS4).at 1 rfl).ub.c 0 _ rfl, ((unhide HS4).at 3 rfl).ub.c 1 _ rfl⟩) ?_
      clear hK K
      refine wpR_done (by kernel_rfl) ?_
      go_wp2_with fail
      exact bodyPost_ret (v := .agg #[.slice a8 l8 c8, .slice a4 l4 c4]) (res59 Tryz.results126 _ _ (w.heap.size + 1) _ rfl rfl ((unhide HS4).at 0 rfl)) rfl ⟨_, rfl, IsSz.mk (by rw [unhide HD2]; exact ((unhide HS4).bgt 0 rfl)) ((unhide HS4).bgt 3 rfl), (unhide HS4).below⟩
end Go.Proofs.YtijifpbpjinmhaaGreatDoor

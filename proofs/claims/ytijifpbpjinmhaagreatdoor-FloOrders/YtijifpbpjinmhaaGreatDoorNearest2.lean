/- flo: nearest (45) at a tenth; nearestTo (31), Near (21). -/
import Derived.Test.YtijifpbpjinmhaaGreatDoorRoom
import Derived.Test.YtijifpbpjinmhaaGreatDoorTx
import Derived.Test.YtijifpbpjinmhaaGreatDoorTakeB
import Derived.Test.YtijifpbpjinmhaaGreatDoorShelf2
import Derived.RangeFuncNested
import Derived.RangeFuncBound
import Derived.RangeFuncCalls
import Derived.RangeFuncLeaves
import Derived.RangeFuncFrom
import Derived.Shelf.Abstract
import Derived.Shelf.RegionOpen
import Derived.OwnWalkIn
import Derived.TacticsInMore
import Derived.LoopNIn
import Derived.LoopIn
import Derived.Laws.EntriesVeiled
set_option maxHeartbeats 8000000
set_option maxRecDepth 100000
namespace Go.Proofs.YtijifpbpjinmhaaGreatDoor
open Go.RowKit
attribute [local go_sem] run_bits run_from
theorem pu_below {w w2 : World} {s : ByteArray} (h : w2 = w ∨ w2 = Lib.bytesWorld w 5 s) : Below w.heap.size w w2 := by
  rcases h with rfl | rfl
  · exact Below.refl _ _
  · exact Joins.below_bytesWorld _ _ _ _ (Nat.le_refl _)
theorem natInt_ok (s : ByteArray) (u : Nat) (w : World) (hs : s.size ≤ 1000) (hr : Cub.rightB s.data.toList = true) (hp : Lib.parseUintB 64 s.data.toList = .ok u) :
    Calls Tryz.prog 207 #[.string s] w fun e w' => e = .returned (.tuple #[.int .u64 (u : Nat), .int .i64 0]) ∧ Below w.heap.size w w' := by
  have r1 := fun W => right_any s W (by unfold maxLen; omega)
  rw [hr] at r1
  have R1 := hide r1
  have HP := hide (fun W => Tryz.strconv_ParseUint_10_at64_ok s (by omega) u hp W)
  clear r1 hr hp
  go_enter Tryz.func207, Tryz.ntmps207
  go_wp2_with fail
  refine (unhide R1 _).mono ?_
  rintro e w' ⟨rfl, rfl⟩
  go_wp2_with fail
  refine (unhide HP _).mono ?_
  rintro e w2 ⟨rfl, hw⟩
  have HB : Hid (Below _ _ w2) := pu_below hw
  clear hw
  go_wp2
  go_ret2
  exact ⟨rfl, unhide HB⟩
theorem join_lo (w : World) : Calls Tryz.prog 208 #[.int .u64 7205759403792793, .int .i64 (-56)] w fun e w' => e = .returned (.float .f64 4591870180066957721) ∧ w' = w := by
  go_enter Tryz.func208, Tryz.ntmps208
  go_wp2
  go_ret
  exact ⟨by simp, rfl⟩
theorem text_c (v : Value) (w : World) (h : IsBig w v 57646075230342348) (ht : Tab w) : Calls Tryz.prog 39 #[v] w fun e w' => e = .returned (.string ⟨#[53, 55, 54, 52, 54, 48, 55, 53, 50, 51, 48, 51, 52, 50, 51, 52, 56]⟩) ∧ Below w.heap.size w w' := by
  have e := text_any v 57646075230342348 3 w h (by decide) (by decide +kernel) ht
  rwa [show Lib.decDigits 57646075230342348 = [53, 55, 54, 52, 54, 48, 55, 53, 50, 51, 48, 51, 52, 50, 51, 52, 56] by decide +kernel] at e
theorem divModC (x y : Value) (m n d k : Nat) (w : World) (hx : IsBig w x m) (hy : IsBig w y n) (hk : k ≤ 500000) (hm : m < 1000000000 ^ k) (hn : 0 < n) (hd : m / n = d) :
    Calls Tryz.prog 161 #[x, y] w fun e w' => ∃ a1 n1 c1 a2 n2 c2, e = .returned (.tuple #[.agg #[.slice a1 n1 c1], .agg #[.slice a2 n2 c2]]) ∧ IsBig w' (.agg #[.slice a1 n1 c1]) d ∧ Below w.heap.size w w' := by
  refine (divMod_core x y m n k w hx hy (by omega) hm hn (fun h1 h2 => long_any m n k hk hm h1 h2)).mono ?_
  rintro e w' ⟨a1, n1, c1, a2, n2, c2, rfl, h1, _, hb⟩
  rw [hd] at h1
  exact ⟨a1, n1, c1, a2, n2, c2, rfl, h1, hb⟩
theorem floor_tenth (a1 : Option Addr) (l1 c1 : Nat) (a2 : Option Addr) (l2 c2 : Nat) (w : World) (hp : IsBig w (.agg #[.slice a1 l1 c1]) 1) (hq : IsBig w (.agg #[.slice a2 l2 c2]) 10) (htab : Tab w) :
    Calls Tryz.prog 174 #[.agg #[.slice a1 l1 c1, .slice a2 l2 c2]] w fun e w' => e = .returned (.float .f64 4591870180066957721) ∧ Below w.heap.size w w' := by
  have hta : ∀ W, Below w.heap.size w W → Tab W := fun W hb => htab.later hb
  have HTAB := hide hta
  have hP1 : (1 : Nat) < 1000000000 ^ 50 ∧ 10 < 1000000000 ^ 50 ∧ 576460752303423488 < 1000000000 ^ 50 ∧ 1 * 576460752303423488 < 1000000000 ^ 50 ∧ 10 * 1 < 1000000000 ^ 50 := by decide +kernel
  obtain ⟨V, hV⟩ : ∃ V, V = (w.alloc (.cells #[.slice a1 l1 c1, .slice a2 l2 c2] 54)) := ⟨_, rfl⟩
  have HS0 : Hid (St w [(w.heap.size, 54, #[.slice a1 l1 c1, .slice a2 l2 c2])] [(.agg #[.slice a2 l2 c2], 10), (.agg #[.slice a1 l1 c1], 1)] V) := by rw [hV]; have h := ((((St.nil (Below.refl _ w)).push hp).push hq).new #[.slice a1 l1 c1, .slice a2 l2 c2] 54); (try simp only [World.size_alloc] at h); exact h
  have HV := hide hV
  have HP1 := hide hP1
  clear hV hp hq htab hP1 hta
  go_enter Tryz.func174, Tryz.ntmps174
  have HTW := hide (fun W => twoToP 59 576460752303423488 50 (by decide) (by decide +kernel) (by decide) (by decide) (by decide +kernel) (by decide +kernel) W)
  go_upto_region 1 with fail
  rw [← unhide HV]
  clear HV
  have u0 := ((unhide HS0).at 0 rfl).ub.c 0 _ rfl
  have u1 := ((unhide HS0).at 0 rfl).ub.c 1 _ rfl
  go_upto_region 3 with (have hchk := HS0; clear hchk; go_at_call 85; go_must (refine (isZero_any _ 1 _ ((unhide HS0).bgt 1 rfl)).mono ?_; rintro e U1 ⟨rfl, hb⟩; have HS1 := hide ((unhide HS0).later hb); clear HS0; clear hb u0 u1))
  have u0 := ((unhide HS1).at 0 rfl).ub.c 0 _ rfl
  have u1 := ((unhide HS1).at 0 rfl).ub.c 1 _ rfl
  have hmx : max (-59 : Int) (-1074) = -59 := by decide
  have hmn : min (59 : Int) 1074 = 59 := by decide
  have hw59 : IntKind.i64.wrap 59 = 59 := by decide
  go_upto_region 4 with (have hchk := HS1; clear hchk; go_at_call 206; go_must (refine (bits_tenth _ _ _ _ _ _ 1 10 50 _ ((unhide HS1).bgt 1 rfl) ((unhide HS1).bgt 0 rfl) (by decide) (unhide HP1).1 (unhide HP1).2.1 (by decide +kernel) (by decide +kernel)).mono ?_; rintro e U2 ⟨rfl, hb⟩; have HS2 := hide ((unhide HS1).later hb); clear HS1; clear hb u0 u1))
  go_cut [4] from 17 (fun s4 wx => ∃ g4 a5 l5 c5 a6 l6 c6, s4 = .pointer (some ⟨g4, 0, none⟩) ∧ Hid (St w [(g4, 54, #[.slice a5 l5 c5, .slice a6 l6 c6]), (w.heap.size, 54, #[.slice a1 l1 c1, .slice a2 l2 c2])] [(.agg #[.slice a5 l5 c5], 1 * 576460752303423488), (.agg #[.slice a6 l6 c6], 10 * 1)] wx))
  case first =>
    refine region_reads 6 (fun _ => True) (fun W' => W'.cell? ⟨w.heap.size, 0, none⟩ = some (.slice a1 l1 c1) ∧ W'.cell? ⟨w.heap.size, 1, none⟩ = some (.slice a2 l2 c2)) 7 rfl (by kernel_rfl) ?_
    have HS3 := hide ((unhide HS2).later ((Below.refl _ _).drew))
    clear HS2
    generalize U2.drew = X0 at *
    refine wpR_take7 (i := 0) (oi := _) (v := .agg #[.slice a1 l1 c1, .slice a2 l2 c2]) rfl (by kernel_rfl) (by kernel_rfl) (by kernel_rfl) (by kernel_rfl) (fun _ _ _ h => h) (Or.inl ⟨by rfl, ?_⟩) ⟨trivial, ⟨((unhide HS3).at 0 rfl).ub.c 0 _ rfl, ((unhide HS3).at 0 rfl).ub.c 1 _ rfl⟩⟩ ?_
    · intro W' hW
      go_split_ands
      go_simp
    refine wpR_take7 (i := 1) (oi := _) (v := .int .i64 (-59)) rfl (by kernel_rfl) (by kernel_rfl) (by kernel_rfl) (by kernel_rfl) (fun _ _ _ h => h) (Or.inl ⟨by rfl, ?_⟩) ⟨trivial, ⟨((unhide HS3).at 0 rfl).ub.c 0 _ rfl, ((unhide HS3).at 0 rfl).ub.c 1 _ rfl⟩⟩ ?_
    · intro W' hW
      go_split_ands
      go_simp
    refine wpR_take7 (i := 2) (oi := _) (v := .int .i64 59) rfl (by kernel_rfl) (by kernel_rfl) (by kernel_rfl) (by kernel_rfl) (fun _ _ _ h => h) (Or.inl ⟨by rfl, ?_⟩) ⟨trivial, ⟨((unhide HS3).at 0 rfl).ub.c 0 _ rfl, ((unhide HS3).at 0 rfl).ub.c 1 _ rfl⟩⟩ ?_
    · intro W' hW
      go_split_ands
      go_simp
    refine wpR_two (i := 3) (j := 5) (by kernel_rfl) rfl rfl rfl rfl (fun K hK => ?_) (fun K hK => ?_) 
    · go_simp
      refine (unhide HTW _).mono ?_
      rintro e X1 ⟨_, rfl, ⟨a3, l3, c3, a4, l4, c4, rfl, hv1, hv2⟩, hb⟩
      have HS4 := hide ((((unhide HS3).later hb).push hv1).push hv2)
      clear HS3
      clear hv1 hv2 hb
      refine hK _ _ ⟨trivial, ⟨((unhide HS4).at 0 rfl).ub.c 0 _ rfl, ((unhide HS4).at 0 rfl).ub.c 1 _ rfl⟩⟩ ?_
      clear hK K
      refine wpR_two (i := 4) (j := 5) (by kernel_rfl) rfl rfl rfl rfl (fun K hK => ?_) (fun K hK => ?_) 
      · go_simp
        refine (times_any _ _ _ _ _ _ _ _ _ _ _ _ 1 10 576460752303423488 1 50 _ ((unhide HS4).bgt 3 rfl) ((unhide HS4).bgt 2 rfl) ((unhide HS4).bgt 1 rfl) ((unhide HS4).bgt 0 rfl) (by decide) (unhide HP1).1 (unhide HP1).2.1 (unhide HP1).2.2.1 (unhide HP1).1).mono ?_
        rintro e X2 ⟨_, rfl, ⟨a5, l5, c5, a6, l6, c6, rfl, hv1, hv2⟩, hb⟩
        have HS5 := hide ((((unhide HS4).later hb).push hv2).push hv1)
        clear HS4
        clear hv1 hv2 hb
        refine hK _ _ ⟨trivial, ⟨((unhide HS5).at 0 rfl).ub.c 0 _ rfl, ((unhide HS5).at 0 rfl).ub.c 1 _ rfl⟩⟩ ?_
        clear hK K
        refine wpR_op (i := 5) (o := _) (by kernel_rfl) rfl rfl (fun K hK => ?_)
        go_simp
        have HS6 := hide ((unhide HS5).new #[.slice none 0 0, .slice none 0 0] 54)
        clear HS5
        generalize X2.alloc (.cells #[.slice none 0 0, .slice none 0 0] 54) = X3 at *
        generalize X2.heap.size = g4 at *
        refine hK _ _ ⟨trivial, ⟨((unhide HS6).at 1 rfl).ub.c 0 _ rfl, ((unhide HS6).at 1 rfl).ub.c 1 _ rfl⟩⟩ ?_
        clear hK K
        refine wpR_late (i := 6) (o := _) (by kernel_rfl) rfl rfl (by kernel_rfl) (fun K hK => ?_)
        refine wp_store_row 54 (.tmp 4) (.tmp 21) rfl g4 #[.slice a5 l5 c5, .slice a6 l6 c6] rfl rfl 54 _ ((unhide HS6).at 0 rfl) (by rw [info59]; rfl) rfl (by kernel_rfl) ?_
        have HS7 := hide (((unhide HS6)).set (nz2 _ _ _ _ _ _) #[.slice a5 l5 c5, .slice a6 l6 c6])
        clear HS6
        generalize X3.setRow g4 #[.slice a5 l5 c5, .slice a6 l6 c6] = X4 at *
        refine hK _ _ (⟨((unhide HS7).at 1 rfl).ub.c 0 _ rfl, ((unhide HS7).at 1 rfl).ub.c 1 _ rfl⟩) ?_
        clear hK K
        refine wpR_done (by kernel_rfl) ?_
        go_wp2_with fail
        go_meet
        exact ⟨g4, a5, l5, c5, a6, l6, c6, rfl, hide ((unhide HS7).first 2)⟩
      · go_simp
        have HS5 := hide ((unhide HS4).new #[.slice none 0 0, .slice none 0 0] 54)
        clear HS4
        generalize X1.alloc (.cells #[.slice none 0 0, .slice none 0 0] 54) = X5 at *
        generalize X1.heap.size = g4 at *
        refine hK _ _ ⟨trivial, ⟨((unhide HS5).at 1 rfl).ub.c 0 _ rfl, ((unhide HS5).at 1 rfl).ub.c 1 _ rfl⟩⟩ ?_
        clear hK K
        refine wpR_op (i := 4) (o := _) (by kernel_rfl) rfl rfl (fun K hK => ?_)
        go_simp
        refine (times_any _ _ _ _ _ _ _ _ _ _ _ _ 1 10 576460752303423488 1 50 _ ((unhide HS5).bgt 3 rfl) ((unhide HS5).bgt 2 rfl) ((unhide HS5).bgt 1 rfl) ((unhide HS5).bgt 0 rfl) (by decide) (unhide HP1).1 (unhide HP1).2.1 (unhide HP1).2.2.1 (unhide HP1).1).mono ?_
        rintro e X6 ⟨_, rfl, ⟨a5, l5, c5, a6, l6, c6, rfl, hv1, hv2⟩, hb⟩
        have HS6 := hide ((((unhide HS5).later hb).push hv2).push hv1)
        clear HS5
        clear hv1 hv2 hb
        refine hK _ _ ⟨trivial, ⟨((unhide HS6).at 1 rfl).ub.c 0 _ rfl, ((unhide HS6).at 1 rfl).ub.c 1 _ rfl⟩⟩ ?_
        clear hK K
        refine wpR_late (i := 6) (o := _) (by kernel_rfl) rfl rfl (by kernel_rfl) (fun K hK => ?_)
        refine wp_store_row 54 (.tmp 4) (.tmp 21) rfl g4 #[.slice a5 l5 c5, .slice a6 l6 c6] rfl rfl 54 _ ((unhide HS6).at 0 rfl) (by rw [info59]; rfl) rfl (by kernel_rfl) ?_
        have HS7 := hide (((unhide HS6)).set (nz2 _ _ _ _ _ _) #[.slice a5 l5 c5, .slice a6 l6 c6])
        clear HS6
        generalize X6.setRow g4 #[.slice a5 l5 c5, .slice a6 l6 c6] = X7 at *
        refine hK _ _ (⟨((unhide HS7).at 1 rfl).ub.c 0 _ rfl, ((unhide HS7).at 1 rfl).ub.c 1 _ rfl⟩) ?_
        clear hK K
        refine wpR_done (by kernel_rfl) ?_
        go_wp2_with fail
        go_meet
        exact ⟨g4, a5, l5, c5, a6, l6, c6, rfl, hide ((unhide HS7).first 2)⟩
    · go_simp
      have HS4 := hide ((unhide HS3).new #[.slice none 0 0, .slice none 0 0] 54)
      clear HS3
      generalize X0.alloc (.cells #[.slice none 0 0, .slice none 0 0] 54) = X8 at *
      generalize X0.heap.size = g4 at *
      refine hK _ _ ⟨trivial, ⟨((unhide HS4).at 1 rfl).ub.c 0 _ rfl, ((unhide HS4).at 1 rfl).ub.c 1 _ rfl⟩⟩ ?_
      clear hK K
      refine wpR_op (i := 3) (o := _) (by kernel_rfl) rfl rfl (fun K hK => ?_)
      go_simp
      refine (unhide HTW _).mono ?_
      rintro e X9 ⟨_, rfl, ⟨a3, l3, c3, a4, l4, c4, rfl, hv1, hv2⟩, hb⟩
      have HS5 := hide ((((unhide HS4).later hb).push hv1).push hv2)
      clear HS4
      clear hv1 hv2 hb
      refine hK _ _ ⟨trivial, ⟨((unhide HS5).at 1 rfl).ub.c 0 _ rfl, ((unhide HS5).at 1 rfl).ub.c 1 _ rfl⟩⟩ ?_
      clear hK K
      refine wpR_op (i := 4) (o := _) (by kernel_rfl) rfl rfl (fun K hK => ?_)
      go_simp
      refine (times_any _ _ _ _ _ _ _ _ _ _ _ _ 1 10 576460752303423488 1 50 _ ((unhide HS5).bgt 3 rfl) ((unhide HS5).bgt 2 rfl) ((unhide HS5).bgt 1 rfl) ((unhide HS5).bgt 0 rfl) (by decide) (unhide HP1).1 (unhide HP1).2.1 (unhide HP1).2.2.1 (unhide HP1).1).mono ?_
      rintro e X10 ⟨_, rfl, ⟨a5, l5, c5, a6, l6, c6, rfl, hv1, hv2⟩, hb⟩
      have HS6 := hide ((((unhide HS5).later hb).push hv2).push hv1)
      clear HS5
      clear hv1 hv2 hb
      refine hK _ _ ⟨trivial, ⟨((unhide HS6).at 1 rfl).ub.c 0 _ rfl, ((unhide HS6).at 1 rfl).ub.c 1 _ rfl⟩⟩ ?_
      clear hK K
      refine wpR_late (i := 6) (o := _) (by kernel_rfl) rfl rfl (by kernel_rfl) (fun K hK => ?_)
      refine wp_store_row 54 (.tmp 4) (.tmp 21) rfl g4 #[.slice a5 l5 c5, .slice a6 l6 c6] rfl rfl 54 _ ((unhide HS6).at 0 rfl) (by rw [info59]; rfl) rfl (by kernel_rfl) ?_
      have HS7 := hide (((unhide HS6)).set (nz2 _ _ _ _ _ _) #[.slice a5 l5 c5, .slice a6 l6 c6])
      clear HS6
      generalize X10.setRow g4 #[.slice a5 l5 c5, .slice a6 l6 c6] = X11 at *
      refine hK _ _ (⟨((unhide HS7).at 1 rfl).ub.c 0 _ rfl, ((unhide HS7).at 1 rfl).ub.c 1 _ rfl⟩) ?_
      clear hK K
      refine wpR_done (by kernel_rfl) ?_
      go_wp2_with fail
      go_meet
      exact ⟨g4, a5, l5, c5, a6, l6, c6, rfl, hide ((unhide HS7).first 2)⟩
  case rest =>
    obtain ⟨g4, a5, l5, c5, a6, l6, c6, rfl, HS0⟩ := hcut
    generalize wc = Y0 at *
    have HQ : Hid (1 * 576460752303423488 / (10 * 1) = 57646075230342348) := (by decide +kernel : 1 * 576460752303423488 / (10 * 1) = 57646075230342348)
    have u0 := ((unhide HS0).at 0 rfl).ub.c 0 _ rfl
    have u1 := ((unhide HS0).at 0 rfl).ub.c 1 _ rfl
    go_upto_region 6 with (have hchk := HS0; clear hchk; go_at_call 161; go_must (refine (divModC _ _ (1 * 576460752303423488) (10 * 1) 57646075230342348 50 _ ((unhide HS0).bgt 0 rfl) ((unhide HS0).bgt 1 rfl) (by decide) (unhide HP1).2.2.2.1 (by decide) (unhide HQ)).mono ?_; rintro e Y1 ⟨a7, l7, c7, a8, l8, c8, rfl, hv1, hb⟩; have HS1 := hide (((unhide HS0).later hb).push hv1); clear HS0; clear hv1 hb u0 u1))
    have HS2 : Hid (St w [(Y1.heap.size + 1, 51, #[.slice a8 l8 c8]), (Y1.heap.size, 51, #[.slice a7 l7 c7]), (g4, 54, #[.slice a5 l5 c5, .slice a6 l6 c6]), (w.heap.size, 54, #[.slice a1 l1 c1, .slice a2 l2 c2])] [(.agg #[.slice a7 l7 c7], 57646075230342348), (.agg #[.slice a5 l5 c5], 1 * 576460752303423488), (.agg #[.slice a6 l6 c6], 10 * 1)] ((Y1.alloc (.cells #[.slice a7 l7 c7] 51)).alloc (.cells #[.slice a8 l8 c8] 51))) := by have h := ((unhide HS1).new #[.slice a7 l7 c7] 51).new #[.slice a8 l8 c8] 51; simp only [World.size_alloc] at h; exact h
    clear HS1
    generalize (Y1.alloc (.cells #[.slice a7 l7 c7] 51)).alloc (.cells #[.slice a8 l8 c8] 51) = Y2 at *
    generalize Y1.heap.size = g5 at *
    have u0 := ((unhide HS2).at 1 rfl).ub.c 0 _ rfl
    go_wp2_with (first
      | (have hchk := HS3; clear hchk; go_at_call 207; go_must (refine (natInt_ok ⟨#[53, 55, 54, 52, 54, 48, 55, 53, 50, 51, 48, 51, 52, 50, 51, 52, 56]⟩ 57646075230342348 _ (by decide) (by decide +kernel) (by decide +kernel)).mono ?_; rintro e Y4 ⟨rfl, hb⟩; have HS4 := hide ((unhide HS3).later hb); clear HS3; clear hb))
      | (have hchk := HS2; clear hchk; go_at_call 39; go_must (refine (text_c _ _ ((unhide HS2).bgt 0 rfl) (unhide HTAB _ (unhide HS2).below)).mono ?_; rintro e Y3 ⟨rfl, hb⟩; have HS3 := hide ((unhide HS2).later hb); clear HS2; clear hb u0)))
    go_loopw [7, 3] (fun m e wr => ((m = .int .u64 57646075230342348 ∧ e = .int .i64 (-59)) ∨ (m = .int .u64 28823037615171174 ∧ e = .int .i64 (-58)) ∨ (m = .int .u64 14411518807585587 ∧ e = .int .i64 (-57)) ∨ (m = .int .u64 7205759403792793 ∧ e = .int .i64 (-56))) ∧ Hid (Below w.heap.size w wr)) (fun m _ _ => (intOf m).toNat)
    case atStart => exact ⟨Or.inl ⟨rfl, rfl⟩, (unhide HS4).below⟩
    case round =>
      obtain ⟨h, HBW⟩ := hrel
      rcases h with ⟨rfl, rfl⟩ | ⟨rfl, rfl⟩ | ⟨rfl, rfl⟩ | ⟨rfl, rfl⟩
      · go_wp2_with fail
        go_roundw
        case rel => exact ⟨Or.inr (Or.inl ⟨rfl, rfl⟩), HBW⟩
        case measure => decide
      · go_wp2_with fail
        go_roundw
        case rel => exact ⟨Or.inr (Or.inr (Or.inl ⟨rfl, rfl⟩)), HBW⟩
        case measure => decide
      · go_wp2_with fail
        go_roundw
        case rel => exact ⟨Or.inr (Or.inr (Or.inr (⟨rfl, rfl⟩))), HBW⟩
        case measure => decide
      · go_wp2_with (go_at_call 208; go_must (refine (join_lo _).mono ?_; rintro e ww ⟨rfl, rfl⟩))
        go_ret
        exact ⟨rfl, unhide HBW⟩
end Go.Proofs.YtijifpbpjinmhaaGreatDoor
namespace Go.Proofs.YtijifpbpjinmhaaGreatDoor
open Go.RowKit
theorem places_hi (a1 : Option Addr) (l1 c1 : Nat) (a2 : Option Addr) (l2 c2 : Nat) (w : World) (hp : IsBig w (.agg #[.slice a1 l1 c1]) (1 * 28823037615171176)) (hq : IsBig w (.agg #[.slice a2 l2 c2]) 288230376151711744) : Calls Tryz.prog 107 #[.agg #[.slice a1 l1 c1, .slice a2 l2 c2]] w fun e w' => e = .returned (.int .i64 0) ∧ Below w.heap.size w w' :=
  places_up a1 l1 c1 a2 l2 c2 (1 * 28823037615171176) 288230376151711744 17 18 50 1 (1 * 10 ^ 1) (-1) w hp hq (by decide) (by decide +kernel) (by decide +kernel) (by decide +kernel) (by decide +kernel) (by decide) (by decide) (fun W => tenToN 1 (1 * 10 ^ 1) (by decide) (by decide) rfl W) (by decide +kernel) (by decide +kernel)
theorem text_one (v : Value) (w : World) (h : IsBig w v (1 * 28823037615171176 * (1 * 10 ^ 1) / (288230376151711744 * 1))) (ht : Tab w) : Calls Tryz.prog 39 #[v] w fun e w' => e = .returned (.string ⟨#[49]⟩) ∧ Below w.heap.size w w' := by
  rw [show 1 * 28823037615171176 * (1 * 10 ^ 1) / (288230376151711744 * 1) = 1 by decide +kernel] at h
  have e := text_any v 1 1 w h (by decide) (by decide) ht
  rwa [show Lib.decDigits 1 = [49] by decide +kernel] at e
theorem repeat_none (s : ByteArray) (w : World) : Calls Tryz.prog 104 #[.string s, .int .i64 0] w fun e w' => e = .returned (.string ⟨#[]⟩) ∧ w' = w := by
  go_enter Tryz.func104, Tryz.ntmps104
  go_wp2
  go_ret
  exact ⟨rfl, rfl⟩
theorem laid_one (w : World) : Calls Tryz.prog 55 #[.string ⟨#[49]⟩, .int .i64 0] w fun e w' => e = .returned (.string ⟨#[48, 46, 49]⟩) ∧ w' = w := by
  have hw : IntKind.i64.wrap 0 = 0 := by decide
  go_enter Tryz.func55, Tryz.ntmps55
  go_wp2_with (go_at_call 104; go_must (refine (repeat_none _ _).mono ?_; rintro e ww ⟨rfl, hw⟩; have hw2 := hw.symm; subst hw2; clear hw))
  go_ret
  exact ⟨rfl, rfl⟩
theorem shortest_hi (w : World) (htab : Tab w) : Calls Tryz.prog 56 #[.float .f64 4591870180066957722] w fun e w' => e = .returned (.tuple #[.string ⟨#[49]⟩, .int .i64 0]) ∧ Below w.heap.size w w' := by
  have hta : ∀ W, Below w.heap.size w W → Tab W := fun W hb => htab.later hb
  have HTAB := hide hta
  have h0 : (FloatKind.f64.format.order 4591870180066957722 0 == some Ordering.eq) = false := by decide +kernel
  have HS0 : Hid (St w [] [] w) := St.nil (Below.refl _ _)
  clear htab hta
  go_enter Tryz.func56, Tryz.ntmps56
  go_upto_region 4 with (first
    | (have hchk := HS0; clear hchk; go_at_call 106; go_must (refine (roomOf_hi _).mono ?_; rintro e U1 ⟨a1, l1, c1, a2, l2, c2, a3, l3, c3, a4, l4, c4, rfl, hv1, hv2, hv3, hv4, hb⟩; have HS1 := hide ((((((unhide HS0).later hb).push hv1).push hv2).push hv3).push hv4); clear HS0; clear hv1 hv2 hv3 hv4 hb h0))
    | (have hchk := HS1; clear hchk; refine storeT 128 5 info81 rfl (.tmp 4) (.tmp 13) rfl U1.heap.size #[.slice none 0 0, .slice none 0 0, .slice none 0 0, .slice none 0 0, .bool false] #[.slice a1 l1 c1, .slice a2 l2 c2, .slice a3 l3 c3, .slice a4 l4 c4, .bool true] rfl rfl rfl rfl (OwnU.new _ _ _) (by kernel_rfl) ?_))
  have HS2 := hide ((unhide HS1).new #[.slice none 0 0, .slice none 0 0, .slice none 0 0, .slice none 0 0, .bool false] 128)
  clear HS1
  generalize U1.alloc (.cells #[.slice none 0 0, .slice none 0 0, .slice none 0 0, .slice none 0 0, .bool false] 128) = U2 at *
  generalize U1.heap.size = g4 at *
  have HS3 := hide (((unhide HS2)).set nz81 #[.slice a1 l1 c1, .slice a2 l2 c2, .slice a3 l3 c3, .slice a4 l4 c4, .bool true])
  clear HS2
  generalize U2.setRow g4 #[.slice a1 l1 c1, .slice a2 l2 c2, .slice a3 l3 c3, .slice a4 l4 c4, .bool true] = U3 at *
  have u0 := ((unhide HS3).at 0 rfl).ub.c 0 _ rfl
  have u3 := ((unhide HS3).at 0 rfl).ub.c 3 _ rfl
  go_upto_region 5 with (have hchk := HS3; clear hchk; go_at_call 107; go_must (refine (places_hi _ _ _ _ _ _ _ ((unhide HS3).bgt 3 rfl) ((unhide HS3).bgt 0 rfl)).mono ?_; rintro e U4 ⟨rfl, hb⟩; have HS4 := hide ((unhide HS3).later hb); clear HS3; clear hb u0 u3))
  have HS5 := hide ((unhide HS4).new #[.int .i64 0] 3)
  clear HS4
  generalize U4.alloc (.cells #[.int .i64 0] 3) = U5 at *
  generalize U4.heap.size = g5 at *
  go_upto_region 6 with (have hchk := HS5; clear hchk; go_at_call 108; go_must (refine (search_any _ _ _ _ _ _ _ _ _ _ _ _ g4 g5 _ ((unhide HS5).bgt 3 rfl) ((unhide HS5).bgt 2 rfl) ((unhide HS5).bgt 1 rfl) ((unhide HS5).bgt 0 rfl) ((unhide HS5).at 1 rfl) ((unhide HS5).at 0 rfl)).mono ?_; rintro e U6 ⟨rfl, hb⟩; have HS6 := hide ((unhide HS5).later hb); clear HS5; clear hb))
  have u0 := ((unhide HS6).at 1 rfl).ub.c 0 _ rfl
  have u1 := ((unhide HS6).at 1 rfl).ub.c 1 _ rfl
  have u2 := ((unhide HS6).at 1 rfl).ub.c 2 _ rfl
  have u3 := ((unhide HS6).at 1 rfl).ub.c 3 _ rfl
  have u4 := ((unhide HS6).at 1 rfl).ub.c 4 _ rfl
  have u5 := ((unhide HS6).at 0 rfl).ub.c 0 _ rfl
  go_upto_region 7 with (have hchk := HS6; clear hchk; go_at_call 110; go_must (refine (dec_any _ _ _ _ _ _ _ _ _ _ _ _ 1 _ ((unhide HS6).bgt 3 rfl) ((unhide HS6).bgt 2 rfl) ((unhide HS6).bgt 1 rfl) ((unhide HS6).bgt 0 rfl) (by decide) (by decide)).mono ?_; rintro e U7 ⟨a5, l5, c5, rfl, hv, hb⟩; have HS7 := hide (((unhide HS6).later hb).push hv); clear HS6; clear hv hb u0 u1 u2 u3 u4 u5))
  have HS8 := hide ((unhide HS7).new #[.slice a5 l5 c5] 51)
  clear HS7
  generalize U7.alloc (.cells #[.slice a5 l5 c5] 51) = U8 at *
  generalize U7.heap.size = g7 at *
  have u0 := ((unhide HS8).at 0 rfl).ub.c 0 _ rfl
  go_upto_region 10 with (have hchk := HS8; clear hchk; go_at_call 39; go_must (refine (text_one _ _ ((unhide HS8).bgt 0 rfl) (unhide HTAB _ (unhide HS8).below)).mono ?_; rintro e U9 ⟨rfl, hb⟩; have HS9 := hide ((unhide HS8).later hb); clear HS8; clear hb u0))
  refine region_reads 3 (fun _ => True) (fun W' => W'.cell? ⟨g5, 0, none⟩ = some (.int .i64 0)) 4 rfl (by kernel_rfl) ?_
  have HS10 := hide ((unhide HS9).later ((Below.refl _ _).drew))
  clear HS9
  generalize U9.drew = X0 at *
  refine wpR_take7 (i := 0) (oi := _) (v := .string ⟨#[49]⟩) rfl (by kernel_rfl) (by kernel_rfl) (by kernel_rfl) (by kernel_rfl) (fun _ _ _ h => h) (Or.inl ⟨by rfl, ?_⟩) ⟨trivial, ((unhide HS10).at 1 rfl).ub.c 0 _ rfl⟩ ?_
  · intro W' hW
    go_simp
  refine wpR_take7 (i := 1) (oi := _) (v := .int .i64 0) rfl (by kernel_rfl) (by kernel_rfl) (by kernel_rfl) (by kernel_rfl) (fun _ _ _ h => h) (Or.inl ⟨by rfl, ?_⟩) ⟨trivial, ((unhide HS10).at 1 rfl).ub.c 0 _ rfl⟩ ?_
  · intro W' hW
    go_simp
  refine wpR_op (i := 2) (o := _) (by kernel_rfl) rfl rfl (fun K hK => ?_)
  go_simp
  refine hK _ _ ⟨trivial, ((unhide HS10).at 1 rfl).ub.c 0 _ rfl⟩ ?_
  clear hK K
  refine wpR_late (i := 3) (o := _) (by kernel_rfl) rfl rfl (by kernel_rfl) (fun K hK => ?_)
  go_simp
  refine hK _ _ (((unhide HS10).at 1 rfl).ub.c 0 _ rfl) ?_
  clear hK K
  refine wpR_done (by kernel_rfl) ?_
  go_wp2_with fail
  exact bodyPost_ret (v := .tuple #[.string ⟨#[49]⟩, .int .i64 0]) (by simp [results, Tryz.results56, go_sem]) rfl ⟨rfl, (unhide HS10).below⟩
end Go.Proofs.YtijifpbpjinmhaaGreatDoor
namespace Go.Proofs.YtijifpbpjinmhaaGreatDoor
open Go.RowKit Go.Shelf
theorem OwnU.kept {A B : World} {g ty : Nat} {vs : Array Value} {row : Option Nat} (h : OwnU A g ty vs) (hg : A.grownBy B row) (hr : ∀ r, row = some r → ∃ o : Obj, A.heap[r]? = some o ∧ o.isCells = false) : OwnU B g ty vs := by
  refine (hg.block g h.lt (fun e => ?_)).trans h
  obtain ⟨o, h1, h2⟩ := hr g (by first | exact e | exact e.symm)
  unfold OwnU at h
  rw [h] at h1
  cases h1
  cases h2
def P1074 : Nat := 2 ^ 1074
theorem P_is : 2 ^ 1074 = P1074 := by delta P1074; exact Eq.refl _
def szN (f : Nat) : Nat × Nat := if f = 4591870180066957721 then (7205759403792793 * 1, 1 * 2 ^ 56) else if f = 4591870180066957722 then (7205759403792794 * 1, 1 * 2 ^ 56) else (0 * 1, 1 * P1074)
def dN (f : Nat) : Nat := if 1 * (szN f).2 < (szN f).1 * 10 then (szN f).1 * 10 - 1 * (szN f).2 else 1 * (szN f).2 - (szN f).1 * 10
def cOf (f g : Nat) : Int := Cub.cmpN (dN f * (szN g).2) (dN g * (szN f).2)
def bestStep (g f : Nat) : Nat := if nearO (cOf f g) f then f else g
def F3 (f : Nat) : Prop := f = 0 ∨ f = 4591870180066957721 ∨ f = 4591870180066957722
theorem size_any (f : Nat) (h : F3 f) : SizeAns f (szN f).1 (szN f).2 := by
  rcases h with rfl | rfl | rfl
  · exact sizeZ P1074 P_is (by decide +kernel)
  · exact size_lo
  · exact size_hi
theorem sz_lt (f : Nat) (h : F3 f) : (szN f).1 < 1000000000 ^ 50 ∧ (szN f).2 < 1000000000 ^ 50 := by
  rcases h with rfl | rfl | rfl <;> decide +kernel
theorem dN_lt (f : Nat) (h : F3 f) : dN f < 1000000000 ^ 100 ∧ (szN f).2 < 1000000000 ^ 100 := by
  rcases h with rfl | rfl | rfl <;> decide +kernel
theorem cmp3 (m n : Nat) : Cub.cmpN m n = -1 ∨ Cub.cmpN m n = 0 ∨ Cub.cmpN m n = 1 := by unfold Cub.cmpN; split <;> (try split) <;> simp
theorem away3 (a1 : Option Addr) (l1 c1 : Nat) (a2 : Option Addr) (l2 c2 f : Nat) (w : World) (hf : F3 f) (hp : IsBig w (.agg #[.slice a1 l1 c1]) 1) (hq : IsBig w (.agg #[.slice a2 l2 c2]) 10) :
    Calls Tryz.prog 126 #[.agg #[.slice a1 l1 c1, .slice a2 l2 c2], .float .f64 f] w fun e w' => ∃ v, e = .returned v ∧ IsSz w' v (dN f) (szN f).2 ∧ Below w.heap.size w w' :=
  away_any a1 l1 c1 a2 l2 c2 1 10 (szN f).1 (szN f).2 50 f w hp hq (size_any f hf) (by decide) ⟨by decide +kernel, by decide +kernel, (sz_lt f hf).1, (sz_lt f hf).2⟩
theorem nearer3 (a1 : Option Addr) (l1 c1 : Nat) (a2 : Option Addr) (l2 c2 f g gx : Nat) (w : World) (hf : F3 f) (hg : F3 g) (hx : OwnU w gx 54 #[.slice a1 l1 c1, .slice a2 l2 c2]) (hp : IsBig w (.agg #[.slice a1 l1 c1]) 1) (hq : IsBig w (.agg #[.slice a2 l2 c2]) 10) :
    Calls Tryz.prog 125 #[.float .f64 f, .float .f64 g, .pointer (some ⟨gx, 0, none⟩)] w fun e w' => e = .returned (.bool (nearO (cOf f g) f)) ∧ Below w.heap.size w w' :=
  nearer_any a1 l1 c1 a2 l2 c2 1 10 (dN f) (szN f).2 (dN g) (szN g).2 100 f g gx (cOf f g) w hx hp hq (fun W hb => away3 _ _ _ _ _ _ f W hf (hp.later hb) (hq.later hb)) (fun W hb => away3 _ _ _ _ _ _ g W hg (hp.later hb) (hq.later hb)) (by decide) ⟨(dN_lt f hf).1, (dN_lt f hf).2, (dN_lt g hg).1, (dN_lt g hg).2⟩ rfl (cmp3 _ _)
abbrev LH := { x : Nat // x = 4591870180066957721 ∨ x = 4591870180066957722 }
def lo : LH := ⟨4591870180066957721, Or.inl rfl⟩
def hi : LH := ⟨4591870180066957722, Or.inr rfl⟩
def bestOf (l : List LH) : Nat := l.foldl (fun g x => bestStep g x.1) 0
theorem bestOf_snoc (l : List LH) (x : LH) : bestOf (l ++ [x]) = bestStep (bestOf l) x.1 := by simp [bestOf]
theorem LH.f3 (x : LH) : F3 x.1 := by rcases x.2 with h | h <;> simp [F3, h]
theorem bestStep_f3 (g : Nat) (x : LH) (h : F3 g) : F3 (bestStep g x.1) := by
  unfold bestStep
  split
  · exact x.f3
  · exact h
theorem bestOf_f3 (l : List LH) : F3 (bestOf l) := by
  suffices h : ∀ (l : List LH) (g : Nat), F3 g → F3 (l.foldl (fun g x => bestStep g x.1) g) from h l 0 (Or.inl rfl)
  intro l
  induction l with
  | nil => exact fun g h => h
  | cons x t ih => exact fun g h => ih _ (bestStep_f3 g x h)
attribute [local go_sem] Oper.semAt_some
theorem around_any (a1 : Option Addr) (l1 c1 : Nat) (a2 : Option Addr) (l2 c2 : Nat) (w : World) : Calls Tryz.prog 127 #[.agg #[.slice a1 l1 c1, .slice a2 l2 c2]] w fun e w' => e = .returned (.func (.func 173) #[] #[.pointer (some ⟨w.heap.size, 0, none⟩)]) ∧ w' = w.alloc (.cells #[.slice a1 l1 c1, .slice a2 l2 c2] 54) := by
  go_enter Tryz.func127, Tryz.ntmps127
  go_wp2
  go_ret
  exact ⟨rfl, rfl⟩
theorem next_lo (w : World) : Calls Tryz.prog 22 #[.float .f64 4591870180066957721, .bool true] w fun e w' => e = .returned (.float .f64 4591870180066957722) ∧ w' = w := by
  have := next_any 4591870180066957721 true (by decide) w
  rwa [show nextF 4591870180066957721 true = 4591870180066957722 by decide +kernel] at this
theorem grown_of {w w' : World} (h : Below w.heap.size w w') : w.grownBy w' none := by
  first | exact ⟨h.os, h.tape, h.output, h.size, fun k hk _ => h.block k hk⟩ | skip
theorem around1_stops (n₀ b : Nat) (a1 : Option Addr) (l1 c1 : Nat) (a2 : Option Addr) (l2 c2 : Nat) (w : World) (ho : OwnU w b 54 #[.slice a1 l1 c1, .slice a2 l2 c2]) (hp : IsBig w (.agg #[.slice a1 l1 c1]) 1) (hq : IsBig w (.agg #[.slice a2 l2 c2]) 10) (htab : Tab w) :
    SeqStopsK Fence.wide 2 Tryz.prog 173 #[.pointer (some ⟨b, 0, none⟩)] (fun x : LH => #[.float .f64 x.1]) (Below n₀) (fun xs => xs = [lo, hi]) (fun _ => True) 2 w := fun l J Jx W hW hJ hJx hY h0 => by
  have HFL := hide (floor_tenth a1 l1 c1 a2 l2 c2 W (hp.later hW) (hq.later hW) (htab.later hW))
  have u0 : W.cell? ⟨b, 0, none⟩ = some (.slice a1 l1 c1) := (ho.later hW).ub.c 0 _ rfl
  have u1 : W.cell? ⟨b, 1, none⟩ = some (.slice a2 l2 c2) := (ho.later hW).ub.c 1 _ rfl
  have hlt : (FloatKind.f64.format.order 4591870180066957721 9218868437227405311 == some Ordering.lt) = true := by decide +kernel
  clear ho hp hq htab
  refine callsIn_of_wp Tryz.func173 rfl trivial ?_ rfl
  simp only [Tryz.ntmps173, List.size_toArray, List.length_cons, List.length_nil, Nat.reduceAdd, Nat.reduceSub, Array.replicate_succ, Array.replicate_zero, List.push_toArray, List.append_toArray, List.nil_append, List.cons_append]
  gi_wp2_with (refine ⟨trivial, ?_⟩; gi_at_call 174; refine (callsIn_wide.2 (unhide HFL)).mono ?_; rintro e W1 ⟨rfl, hb⟩; have h01 : J [] W1 := hJ _ _ _ none h0 (grown_of hb) (fun r e => by cases e); clear u0 u1 hb; obtain ⟨f1, t1, as1, b1, hy1, hR1⟩ := hY [] lo W1 h01 (by simp); dsimp only [lo] at hy1)
  refine hR1.mono ?_
  rintro e W2 (⟨rfl, hJ2, _⟩ | ⟨rfl, hx2⟩)
  · gi_wp2_with (refine ⟨trivial, ?_⟩; gi_at_call 22; refine (callsIn_wide.2 (next_lo _)).mono ?_; rintro e W3 ⟨rfl, rfl⟩; obtain ⟨f2, t2, as2, b2, hy2, hR2⟩ := hY [lo] hi _ hJ2 (by simp); dsimp only [hi] at hy2)
    refine hR2.mono ?_
    rintro e W4 (⟨rfl, hJ4, _⟩ | ⟨rfl, hx4⟩)
    · gi_wp2
      go_end0
      exact ⟨⟨_, rfl⟩, .inl ⟨[lo, hi], rfl, hJ4⟩⟩
    · gi_wp2
      go_end0
      exact ⟨⟨_, rfl⟩, .inr ⟨[lo, hi], trivial, hx4⟩⟩
  · gi_wp2
    go_end0
    exact ⟨⟨_, rfl⟩, .inr ⟨[lo], trivial, hx2⟩⟩
end Go.Proofs.YtijifpbpjinmhaaGreatDoor
namespace Go.Proofs.YtijifpbpjinmhaaGreatDoor
open Go.RowKit Go.Shelf
theorem run_store_float (P : Program) (w : World) (a : Addr) (m : Mode) (k : FloatKind) (b : Nat) : (store a (.float k b) m).run P w = stored P w a (.float k b) m := run_store P w a _ m rfl
attribute [local go_sem] Oper.semAt_some run_store_float
theorem best_all : bestOf [lo, hi] = 4591870180066957722 := by decide +kernel
theorem keeps_below {W W' : World} (h : Below W.heap.size W W') : KeepsOthers W W' := ⟨h.size, fun k _ hk _ => (h.block k (Array.getElem?_eq_some_iff.1 hk).1).trans hk⟩
theorem nearest_tenth (a1 : Option Addr) (l1 c1 : Nat) (a2 : Option Addr) (l2 c2 : Nat) (w : World) (hp : IsBig w (.agg #[.slice a1 l1 c1]) 1) (hq : IsBig w (.agg #[.slice a2 l2 c2]) 10) (htab : Tab w) :
    Calls Tryz.prog 76 #[.agg #[.slice a1 l1 c1, .slice a2 l2 c2]] w fun e w' => e = .returned (.float .f64 4591870180066957722) ∧ Below w.heap.size w w' := by
  refine (callsIn_wide (n := 3)).1 ?_
  refine callsIn_of_wp_marks Tryz.func76 rfl trivial ?_ rfl
  simp only [Tryz.ntmps76, List.size_toArray, List.length_cons, List.length_nil, Nat.reduceAdd, Nat.reduceSub, Array.replicate_succ, Array.replicate_zero, List.push_toArray, List.append_toArray, List.nil_append, List.cons_append]
  gi_wp2_with (refine ⟨trivial, ?_⟩; gi_at_call 127; refine (callsIn_wide.2 (around_any _ _ _ _ _ _ _)).mono ?_; rintro e w' ⟨rfl, rfl⟩)
  obtain ⟨V, hV⟩ : ∃ V, V = (((w.alloc (.cells #[.slice a1 l1 c1, .slice a2 l2 c2] 54)).alloc (.cells #[.func (.func 125) #[] #[.pointer (some ⟨w.heap.size, 0, none⟩)]] 28)).alloc (.cells #[.float .f64 0] 24)).alloc (.cells #[.slice a1 l1 c1, .slice a2 l2 c2] 54) := ⟨_, rfl⟩
  have hS : St w [(w.heap.size + 1 + 1 + 1, 54, #[.slice a1 l1 c1, .slice a2 l2 c2]), (w.heap.size + 1 + 1, 24, #[.float .f64 0]), (w.heap.size + 1, 28, #[.func (.func 125) #[] #[.pointer (some ⟨w.heap.size, 0, none⟩)]]), (w.heap.size, 54, #[.slice a1 l1 c1, .slice a2 l2 c2])] [] V := by
    rw [hV]
    have h := ((((St.nil (Below.refl _ w)).new #[.slice a1 l1 c1, .slice a2 l2 c2] 54).new #[.func (.func 125) #[] #[.pointer (some ⟨w.heap.size, 0, none⟩)]] 28).new #[.float .f64 0] 24).new #[.slice a1 l1 c1, .slice a2 l2 c2] 54
    simp only [World.size_alloc] at h
    exact h
  have hsz : V.heap.size = w.heap.size + 4 := by rw [hV]; simp
  have HP : Hid (∀ W, Below w.heap.size w W → IsBig W (.agg #[.slice a1 l1 c1]) 1 ∧ IsBig W (.agg #[.slice a2 l2 c2]) 10) := fun W hb => ⟨hp.later hb, hq.later hb⟩
  have HSQ := hide (around1_stops w.heap.size (w.heap.size + 1 + 1 + 1) a1 l1 c1 a2 l2 c2 V (hS.at 0 rfl) (hp.later hS.below) (hq.later hS.below) (htab.later hS.below))
  have HS := hide hS
  rw [← hV]
  clear hp hq htab hS hV
  refine wpIn_rangeFunc_ownF rfl (by decide) (gf := 173) (lb := #[.pointer (some ⟨w.heap.size + 1 + 1 + 1, 0, none⟩)]) rfl trivial (enters_of Tryz.func173 (by kernel_rfl) rfl) (unhide HSQ) belowK_t (belowK_b (by omega)) (Below.refl _ _) (fun _ => rfl)
    (fun pre W => (OwnU W w.heap.size 54 #[.slice a1 l1 c1, .slice a2 l2 c2] ∧ OwnU W (w.heap.size + 1) 28 #[.func (.func 125) #[] #[.pointer (some ⟨w.heap.size, 0, none⟩)]] ∧ OwnU W (w.heap.size + 1 + 1) 24 #[.float .f64 (bestOf pre)]) ∧ Below w.heap.size w W)
    (fun _ _ _ => False)
    (OwnFrom.and (Own.from (fun s A B row hs hg hr => ⟨hs.1.kept hg hr, hs.2.1.kept hg hr, hs.2.2.kept hg hr⟩) _) (ownFrom_below (Nat.le_refl _) (by omega)))
    (fun _ _ _ _ _ hs _ _ => hs)
    ⟨⟨(unhide HS).at 3 rfl, (unhide HS).at 2 rfl, (unhide HS).at 1 rfl⟩, (unhide HS).below⟩
    (fun x => { tmps := #[.agg #[.slice a1 l1 c1, .slice a2 l2 c2], .pointer (some ⟨w.heap.size, 0, none⟩), .float .f64 0, .pointer (some ⟨w.heap.size + 1, 0, none⟩), .pointer (some ⟨w.heap.size + 1 + 1, 0, none⟩), .float .f64 x.1, .func (.func 125) #[] #[.pointer (some ⟨w.heap.size, 0, none⟩)], .agg #[.slice a1 l1 c1, .slice a2 l2 c2], .func (.func 173) #[] #[.pointer (some ⟨w.heap.size + 1 + 1 + 1, 0, none⟩)], .float .f64 x.1, undef, undef, undef, undef, undef, undef], defers := [] }) ?assign ?body ?done ?stop
  case assign =>
    intro l x W K hK
    gi_wp2
    exact hK
  case body =>
    rintro l pre x W ⟨⟨h1, h2, h3⟩, hB⟩ _
    have u0 := h2.ub.c 0 _ rfl
    have u1 := h3.ub.c 0 _ rfl
    have u2 := h3.ub.f 0 _ rfl
    have HN := hide (nearer3 a1 l1 c1 a2 l2 c2 x.1 (bestOf pre) w.heap.size W x.f3 (bestOf_f3 pre) h1 (unhide HP W hB).1 (unhide HP W hB).2)
    have HB := hide hB
    have HO := hide (And.intro h1 (And.intro h2 h3))
    have HE : Hid (∀ b, nearO (cOf x.1 (bestOf pre)) x.1 = b → bestOf (pre ++ [x]) = if b then x.1 else bestOf pre) := fun b hb => by rw [bestOf_snoc]; unfold bestStep; rw [hb]
    generalize nearO (cOf x.1 (bestOf pre)) x.1 = nb at *
    clear h1 h2 h3 hB
    cases nb
    · gi_wp2_with (refine ⟨trivial, ?_⟩; gi_at_call 125; refine (CallsIn.inRound l (callsIn_wide.2 (unhide HN))).mono ?_; rintro e W2 ⟨rfl, hb⟩; have HO2 := hide (And.intro ((unhide HO).1.later hb) (And.intro ((unhide HO).2.1.later hb) ((unhide HO).2.2.later hb))); have HB2 : Hid (Below w.heap.size w W2) := (unhide HB).trans (hb.mono (unhide HB).size); have HK2 : Hid (KeepsOthers W W2 ∧ Below w.heap.size W W2) := ⟨keeps_below hb, hb.mono (unhide HB).size⟩; clear u0 u1 u2 hb; have u1 := (unhide HO2).2.2.ub.c 0 _ rfl; have u2 := (unhide HO2).2.2.ub.f 0 _ rfl)
      have e : bestOf (pre ++ [x]) = bestOf pre := unhide HE false rfl
      refine ⟨(unhide HK2).1, (unhide HK2).2, ⟨(unhide HO2).1, (unhide HO2).2.1, ?_⟩, unhide HB2⟩
      rw [e]
      exact (unhide HO2).2.2
    · gi_wp2_with (refine ⟨trivial, ?_⟩; gi_at_call 125; refine (CallsIn.inRound l (callsIn_wide.2 (unhide HN))).mono ?_; rintro e W2 ⟨rfl, hb⟩; have HO2 := hide (And.intro ((unhide HO).1.later hb) (And.intro ((unhide HO).2.1.later hb) ((unhide HO).2.2.later hb))); have HB2 : Hid (Below w.heap.size w W2) := (unhide HB).trans (hb.mono (unhide HB).size); have HK2 : Hid (KeepsOthers W W2 ∧ Below w.heap.size W W2) := ⟨keeps_below hb, hb.mono (unhide HB).size⟩; clear u0 u1 u2 hb; have u1 := (unhide HO2).2.2.ub.c 0 _ rfl; have u2 := (unhide HO2).2.2.ub.f 0 _ rfl)
      have e : bestOf (pre ++ [x]) = x.1 := unhide HE true rfl
      refine ⟨(unhide HK2).1.trans (KeepsOthers.setCell _ _ _), (unhide HK2).2.setCell (p := ⟨w.heap.size + 1 + 1, 0, none⟩) (by show w.heap.size ≤ w.heap.size + 1 + 1; omega) _, ⟨?_, ?_, ?_⟩, (unhide HB2).setCell (p := ⟨w.heap.size + 1 + 1, 0, none⟩) (by show w.heap.size ≤ w.heap.size + 1 + 1; omega) _⟩
      all_goals rw [(unhide HO2).2.2.set1]
      · exact (unhide HO2).1.other (by omega) _
      · exact (unhide HO2).2.1.other (by omega) _
      · rw [e]; exact (unhide HO2).2.2.setRow _
  case done =>
    rintro D ys W hD rfl ⟨⟨_, _, h3⟩, hB⟩ hK
    have u1 := h3.ub.c 0 _ rfl
    rw [best_all] at u1
    gi_wp2
    refine ⟨by simp, .inl ⟨_, _, rfl, run_takeDeferred hK, ?_⟩⟩
    exact ⟨_, results_tmp rfl _ _ _, rfl, hB.trans (belowK_b (w := w) (Nat.le_refl _) W D _ _ (by omega) hK rfl rfl)⟩
  case stop =>
    rintro D c pre W _ _ h _
    exact h.elim
end Go.Proofs.YtijifpbpjinmhaaGreatDoor

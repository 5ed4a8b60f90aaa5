/- All blocks that a call owns, all Bigs beside them, in one. -/
import Derived.Test.YtijifpbpjinmhaaGreatDoorSz
import Derived.Test.YtijifpbpjinmhaaGreatDoorMany
import Derived.WalkLawsBesides
import Derived.Test.YtijifpbpjinmhaaGreatDoorSt
import Derived.Laws.Externs
import Derived.Laws.BitsAllLaws
import Derived.Test.YtijifpbpjinmhaaGreatDoorBigOf
import Derived.Test.YtijifpbpjinmhaaGreatDoorParseP
set_option maxHeartbeats 4000000
set_option maxRecDepth 100000
namespace Go.Proofs.YtijifpbpjinmhaaGreatDoor
open Go.RowKit
theorem twoTo_pos (n P : Nat) (w : World) (hn : n ≤ 4000) (hpw : ∀ W x, IsBig W x 2 → Calls Tryz.prog 123 #[x, .int .i64 (n : Int)] W fun e w' => ∃ a l c, e = .returned (.agg #[.slice a l c]) ∧ IsBig w' (.agg #[.slice a l c]) P ∧ Below W.heap.size W w') :
    Calls Tryz.prog 74 #[.int .i64 ((n : Int))] w fun e w' => ∃ v, e = .returned v ∧ IsSz w' v P 1 ∧ Below w.heap.size w w' := by
  obtain ⟨V, hV⟩ : ∃ V, V = w.alloc (.cells #[.slice none 0 0, .slice none 0 0] 54) := ⟨_, rfl⟩
  have HR0 : Hid (OwnU V w.heap.size 54 #[.slice none 0 0, .slice none 0 0]) := by rw [hV]; exact OwnU.new _ _ _
  have HW0 : Hid (Below w.heap.size w V) := by rw [hV]; exact ((Below.refl _ _).alloc (by simp; try omega) _)
  have HV := hide hV
  have HPW := hide hpw
  have hnI : (n : Int) ≤ 4000 := by omega
  have hn0 : (0 : Int) ≤ n := by omega
  have HMX : Hid (max (n : Int) (-(n : Int)) = n ∧ max (-(n : Int)) (n : Int) = n) := ⟨by omega, by omega⟩
  clear hV hpw
  go_enter Tryz.func74, Tryz.ntmps74
  go_upto_region 1 with fail
  rw [← unhide HV]
  clear HV
  go_wp2_with (first
    | (have hchk := HW4; clear hchk; refine storeT 54 2 info59 rfl (.tmp 2) (.tmp 12) rfl w.heap.size #[.slice none 0 0, .slice none 0 0] #[.slice a5 l5 c5, .slice a6 l6 c6] rfl rfl rfl rfl (unhide HR4) (by kernel_rfl) ?_)
    | (have hchk := HW3; clear hchk; go_at_call 101; go_must (refine (turned_no _ _ _ _ _ _ P 1 _ (unhide HQ3) (unhide HO3)).mono ?_; rintro e U4 ⟨_, rfl, ⟨a5, l5, c5, a6, l6, c6, rfl, hv1, hv2⟩, hb⟩; have HR4 : Hid (OwnU U4 w.heap.size 54 #[.slice none 0 0, .slice none 0 0]) := (unhide HR3).later (hb); have HW4 : Hid (Below w.heap.size w U4) := (unhide HW3).trans ((hb).mono (unhide HW3).size); have HX4 : Hid (IsBig U4 (.agg #[.slice a1 l1 c1]) 2) := (unhide HX3).later (hb); have HP4 : Hid (IsBig U4 (.agg #[.slice a2 l2 c2]) P) := (unhide HP3).later (hb); have HQ4 : Hid (IsBig U4 (.agg #[.slice a3 l3 c3]) P) := (unhide HQ3).later (hb); have HO4 : Hid (IsBig U4 (.agg #[.slice a4 l4 c4]) 1) := (unhide HO3).later (hb); have HE4 : Hid (IsBig U4 (.agg #[.slice a5 l5 c5]) P) := hv1; have HF4 : Hid (IsBig U4 (.agg #[.slice a6 l6 c6]) 1) := hv2; clear HR3 HW3 HX3 HP3 HQ3 HO3 hv1 hv2 hb))
    | (have hchk := HW2; clear hchk; go_at_call 46; go_must (refine (whole_any _ _ _ P _ (unhide HP2)).mono ?_; rintro e U3 ⟨_, rfl, ⟨a3, l3, c3, a4, l4, c4, rfl, hv1, hv2⟩, hb⟩; have HR3 : Hid (OwnU U3 w.heap.size 54 #[.slice none 0 0, .slice none 0 0]) := (unhide HR2).later (hb); have HW3 : Hid (Below w.heap.size w U3) := (unhide HW2).trans ((hb).mono (unhide HW2).size); have HX3 : Hid (IsBig U3 (.agg #[.slice a1 l1 c1]) 2) := (unhide HX2).later (hb); have HP3 : Hid (IsBig U3 (.agg #[.slice a2 l2 c2]) P) := (unhide HP2).later (hb); have HQ3 : Hid (IsBig U3 (.agg #[.slice a3 l3 c3]) P) := hv1; have HO3 : Hid (IsBig U3 (.agg #[.slice a4 l4 c4]) 1) := hv2; clear HR2 HW2 HX2 HP2 hv1 hv2 hb))
    | (have hchk := HW1; clear hchk; go_at_call 123; (first | rw [(unhide HMX).1] | rw [(unhide HMX).2]); go_must (refine (unhide HPW _ _ (unhide HX1)).mono ?_; rintro e U2 ⟨a2, l2, c2, rfl, hv, hb⟩; have HR2 : Hid (OwnU U2 w.heap.size 54 #[.slice none 0 0, .slice none 0 0]) := (unhide HR1).later (hb); have HW2 : Hid (Below w.heap.size w U2) := (unhide HW1).trans ((hb).mono (unhide HW1).size); have HX2 : Hid (IsBig U2 (.agg #[.slice a1 l1 c1]) 2) := (unhide HX1).later (hb); have HP2 : Hid (IsBig U2 (.agg #[.slice a2 l2 c2]) P) := hv; clear HR1 HW1 HX1 hv hb))
    | (have hchk := HW0; clear hchk; go_at_call 73; go_must (refine (bigOf_any 2 _ (by decide)).mono ?_; rintro e U1 ⟨a1, l1, c1, rfl, hv, hb⟩; have HR1 : Hid (OwnU U1 w.heap.size 54 #[.slice none 0 0, .slice none 0 0]) := (unhide HR0).later (hb); have HW1 : Hid (Below w.heap.size w U1) := (unhide HW0).trans ((hb).mono (unhide HW0).size); have HX1 : Hid (IsBig U1 (.agg #[.slice a1 l1 c1]) 2) := hv; clear HR0 HW0 hv hb)))
  have hX : IsBig (U4.setRow w.heap.size #[.slice a5 l5 c5, .slice a6 l6 c6]) (.agg #[.slice a5 l5 c5]) P := (unhide HE4).setRow (unhide HR4) (nz2 _ _ _ _ _ _) _
  have hY : IsBig (U4.setRow w.heap.size #[.slice a5 l5 c5, .slice a6 l6 c6]) (.agg #[.slice a6 l6 c6]) 1 := (unhide HF4).setRow (unhide HR4) (nz2 _ _ _ _ _ _) _
  exact bodyPost_ret (v := .agg #[.slice a5 l5 c5, .slice a6 l6 c6]) (res59 Tryz.results74 _ _ w.heap.size _ rfl rfl ((unhide HR4).setRow _)) rfl ⟨_, rfl, IsSz.mk hX hY, below_setRow (unhide HW4) (Nat.le_refl _) _⟩
theorem twoTo_neg (n P : Nat) (w : World) (hp : 0 < n) (hn : n ≤ 4000) (hpw : ∀ W x, IsBig W x 2 → Calls Tryz.prog 123 #[x, .int .i64 (n : Int)] W fun e w' => ∃ a l c, e = .returned (.agg #[.slice a l c]) ∧ IsBig w' (.agg #[.slice a l c]) P ∧ Below W.heap.size W w') :
    Calls Tryz.prog 74 #[.int .i64 (-(n : Int))] w fun e w' => ∃ v, e = .returned v ∧ IsSz w' v 1 P ∧ Below w.heap.size w w' := by
  obtain ⟨V, hV⟩ : ∃ V, V = w.alloc (.cells #[.slice none 0 0, .slice none 0 0] 54) := ⟨_, rfl⟩
  have HR0 : Hid (OwnU V w.heap.size 54 #[.slice none 0 0, .slice none 0 0]) := by rw [hV]; exact OwnU.new _ _ _
  have HW0 : Hid (Below w.heap.size w V) := by rw [hV]; exact ((Below.refl _ _).alloc (by simp; try omega) _)
  have HV := hide hV
  have HPW := hide hpw
  have hnI : (n : Int) ≤ 4000 := by omega
  have hn0 : (0 : Int) ≤ n := by omega
  have HMX : Hid (max (n : Int) (-(n : Int)) = n ∧ max (-(n : Int)) (n : Int) = n) := ⟨by omega, by omega⟩
  have hnp : (0 : Int) < n := by omega
  clear hV hpw
  go_enter Tryz.func74, Tryz.ntmps74
  go_upto_region 1 with fail
  rw [← unhide HV]
  clear HV
  go_wp2_with (first
    | (have hchk := HW4; clear hchk; refine storeT 54 2 info59 rfl (.tmp 2) (.tmp 12) rfl w.heap.size #[.slice none 0 0, .slice none 0 0] #[.slice a5 l5 c5, .slice a6 l6 c6] rfl rfl rfl rfl (unhide HR4) (by kernel_rfl) ?_)
    | (have hchk := HW3; clear hchk; go_at_call 101; go_must (refine (turned_yes _ _ _ _ _ _ P 1 _ (unhide HQ3) (unhide HO3)).mono ?_; rintro e U4 ⟨_, rfl, ⟨a5, l5, c5, a6, l6, c6, rfl, hv1, hv2⟩, hb⟩; have HR4 : Hid (OwnU U4 w.heap.size 54 #[.slice none 0 0, .slice none 0 0]) := (unhide HR3).later (hb); have HW4 : Hid (Below w.heap.size w U4) := (unhide HW3).trans ((hb).mono (unhide HW3).size); have HX4 : Hid (IsBig U4 (.agg #[.slice a1 l1 c1]) 2) := (unhide HX3).later (hb); have HP4 : Hid (IsBig U4 (.agg #[.slice a2 l2 c2]) P) := (unhide HP3).later (hb); have HQ4 : Hid (IsBig U4 (.agg #[.slice a3 l3 c3]) P) := (unhide HQ3).later (hb); have HO4 : Hid (IsBig U4 (.agg #[.slice a4 l4 c4]) 1) := (unhide HO3).later (hb); have HE4 : Hid (IsBig U4 (.agg #[.slice a5 l5 c5]) 1) := hv1; have HF4 : Hid (IsBig U4 (.agg #[.slice a6 l6 c6]) P) := hv2; clear HR3 HW3 HX3 HP3 HQ3 HO3 hv1 hv2 hb))
    | (have hchk := HW2; clear hchk; go_at_call 46; go_must (refine (whole_any _ _ _ P _ (unhide HP2)).mono ?_; rintro e U3 ⟨_, rfl, ⟨a3, l3, c3, a4, l4, c4, rfl, hv1, hv2⟩, hb⟩; have HR3 : Hid (OwnU U3 w.heap.size 54 #[.slice none 0 0, .slice none 0 0]) := (unhide HR2).later (hb); have HW3 : Hid (Below w.heap.size w U3) := (unhide HW2).trans ((hb).mono (unhide HW2).size); have HX3 : Hid (IsBig U3 (.agg #[.slice a1 l1 c1]) 2) := (unhide HX2).later (hb); have HP3 : Hid (IsBig U3 (.agg #[.slice a2 l2 c2]) P) := (unhide HP2).later (hb); have HQ3 : Hid (IsBig U3 (.agg #[.slice a3 l3 c3]) P) := hv1; have HO3 : Hid (IsBig U3 (.agg #[.slice a4 l4 c4]) 1) := hv2; clear HR2 HW2 HX2 HP2 hv1 hv2 hb))
    | (have hchk := HW1; clear hchk; go_at_call 123; (first | rw [(unhide HMX).1] | rw [(unhide HMX).2]); go_must (refine (unhide HPW _ _ (unhide HX1)).mono ?_; rintro e U2 ⟨a2, l2, c2, rfl, hv, hb⟩; have HR2 : Hid (OwnU U2 w.heap.size 54 #[.slice none 0 0, .slice none 0 0]) := (unhide HR1).later (hb); have HW2 : Hid (Below w.heap.size w U2) := (unhide HW1).trans ((hb).mono (unhide HW1).size); have HX2 : Hid (IsBig U2 (.agg #[.slice a1 l1 c1]) 2) := (unhide HX1).later (hb); have HP2 : Hid (IsBig U2 (.agg #[.slice a2 l2 c2]) P) := hv; clear HR1 HW1 HX1 hv hb))
    | (have hchk := HW0; clear hchk; go_at_call 73; go_must (refine (bigOf_any 2 _ (by decide)).mono ?_; rintro e U1 ⟨a1, l1, c1, rfl, hv, hb⟩; have HR1 : Hid (OwnU U1 w.heap.size 54 #[.slice none 0 0, .slice none 0 0]) := (unhide HR0).later (hb); have HW1 : Hid (Below w.heap.size w U1) := (unhide HW0).trans ((hb).mono (unhide HW0).size); have HX1 : Hid (IsBig U1 (.agg #[.slice a1 l1 c1]) 2) := hv; clear HR0 HW0 hv hb)))
  have hX : IsBig (U4.setRow w.heap.size #[.slice a5 l5 c5, .slice a6 l6 c6]) (.agg #[.slice a5 l5 c5]) 1 := (unhide HE4).setRow (unhide HR4) (nz2 _ _ _ _ _ _) _
  have hY : IsBig (U4.setRow w.heap.size #[.slice a5 l5 c5, .slice a6 l6 c6]) (.agg #[.slice a6 l6 c6]) P := (unhide HF4).setRow (unhide HR4) (nz2 _ _ _ _ _ _) _
  exact bodyPost_ret (v := .agg #[.slice a5 l5 c5, .slice a6 l6 c6]) (res59 Tryz.results74 _ _ w.heap.size _ rfl rfl ((unhide HR4).setRow _)) rfl ⟨_, rfl, IsSz.mk hX hY, below_setRow (unhide HW4) (Nat.le_refl _) _⟩
theorem tenTo_pos (n P : Nat) (w : World) (hn : n ≤ 4000) (hpw : ∀ W x, IsBig W x 1 → Calls Tryz.prog 100 #[x, .int .i64 (n : Int)] W fun e w' => ∃ a l c, e = .returned (.agg #[.slice a l c]) ∧ IsBig w' (.agg #[.slice a l c]) P ∧ Below W.heap.size W w') :
    Calls Tryz.prog 48 #[.int .i64 ((n : Int))] w fun e w' => ∃ v, e = .returned v ∧ IsSz w' v P 1 ∧ Below w.heap.size w w' := by
  obtain ⟨V, hV⟩ : ∃ V, V = w.alloc (.cells #[.slice none 0 0, .slice none 0 0] 54) := ⟨_, rfl⟩
  have HR0 : Hid (OwnU V w.heap.size 54 #[.slice none 0 0, .slice none 0 0]) := by rw [hV]; exact OwnU.new _ _ _
  have HW0 : Hid (Below w.heap.size w V) := by rw [hV]; exact ((Below.refl _ _).alloc (by simp; try omega) _)
  have HV := hide hV
  have HPW := hide hpw
  have hnI : (n : Int) ≤ 4000 := by omega
  have hn0 : (0 : Int) ≤ n := by omega
  have HMX : Hid (max (n : Int) (-(n : Int)) = n ∧ max (-(n : Int)) (n : Int) = n) := ⟨by omega, by omega⟩
  clear hV hpw
  go_enter Tryz.func48, Tryz.ntmps48
  go_upto_region 1 with fail
  rw [← unhide HV]
  clear HV
  go_wp2_with (first
    | (have hchk := HW4; clear hchk; refine storeT 54 2 info59 rfl (.tmp 2) (.tmp 12) rfl w.heap.size #[.slice none 0 0, .slice none 0 0] #[.slice a5 l5 c5, .slice a6 l6 c6] rfl rfl rfl rfl (unhide HR4) (by kernel_rfl) ?_)
    | (have hchk := HW3; clear hchk; go_at_call 101; go_must (refine (turned_no _ _ _ _ _ _ P 1 _ (unhide HQ3) (unhide HO3)).mono ?_; rintro e U4 ⟨_, rfl, ⟨a5, l5, c5, a6, l6, c6, rfl, hv1, hv2⟩, hb⟩; have HR4 : Hid (OwnU U4 w.heap.size 54 #[.slice none 0 0, .slice none 0 0]) := (unhide HR3).later (hb); have HW4 : Hid (Below w.heap.size w U4) := (unhide HW3).trans ((hb).mono (unhide HW3).size); have HX4 : Hid (IsBig U4 (.agg #[.slice a1 l1 c1]) 1) := (unhide HX3).later (hb); have HP4 : Hid (IsBig U4 (.agg #[.slice a2 l2 c2]) P) := (unhide HP3).later (hb); have HQ4 : Hid (IsBig U4 (.agg #[.slice a3 l3 c3]) P) := (unhide HQ3).later (hb); have HO4 : Hid (IsBig U4 (.agg #[.slice a4 l4 c4]) 1) := (unhide HO3).later (hb); have HE4 : Hid (IsBig U4 (.agg #[.slice a5 l5 c5]) P) := hv1; have HF4 : Hid (IsBig U4 (.agg #[.slice a6 l6 c6]) 1) := hv2; clear HR3 HW3 HX3 HP3 HQ3 HO3 hv1 hv2 hb))
    | (have hchk := HW2; clear hchk; go_at_call 46; go_must (refine (whole_any _ _ _ P _ (unhide HP2)).mono ?_; rintro e U3 ⟨_, rfl, ⟨a3, l3, c3, a4, l4, c4, rfl, hv1, hv2⟩, hb⟩; have HR3 : Hid (OwnU U3 w.heap.size 54 #[.slice none 0 0, .slice none 0 0]) := (unhide HR2).later (hb); have HW3 : Hid (Below w.heap.size w U3) := (unhide HW2).trans ((hb).mono (unhide HW2).size); have HX3 : Hid (IsBig U3 (.agg #[.slice a1 l1 c1]) 1) := (unhide HX2).later (hb); have HP3 : Hid (IsBig U3 (.agg #[.slice a2 l2 c2]) P) := (unhide HP2).later (hb); have HQ3 : Hid (IsBig U3 (.agg #[.slice a3 l3 c3]) P) := hv1; have HO3 : Hid (IsBig U3 (.agg #[.slice a4 l4 c4]) 1) := hv2; clear HR2 HW2 HX2 HP2 hv1 hv2 hb))
    | (have hchk := HW1; clear hchk; go_at_call 100; (first | rw [(unhide HMX).1] | rw [(unhide HMX).2]); go_must (refine (unhide HPW _ _ (unhide HX1)).mono ?_; rintro e U2 ⟨a2, l2, c2, rfl, hv, hb⟩; have HR2 : Hid (OwnU U2 w.heap.size 54 #[.slice none 0 0, .slice none 0 0]) := (unhide HR1).later (hb); have HW2 : Hid (Below w.heap.size w U2) := (unhide HW1).trans ((hb).mono (unhide HW1).size); have HX2 : Hid (IsBig U2 (.agg #[.slice a1 l1 c1]) 1) := (unhide HX1).later (hb); have HP2 : Hid (IsBig U2 (.agg #[.slice a2 l2 c2]) P) := hv; clear HR1 HW1 HX1 hv hb))
    | (have hchk := HW0; clear hchk; go_at_call 73; go_must (refine (bigOf_any 1 _ (by decide)).mono ?_; rintro e U1 ⟨a1, l1, c1, rfl, hv, hb⟩; have HR1 : Hid (OwnU U1 w.heap.size 54 #[.slice none 0 0, .slice none 0 0]) := (unhide HR0).later (hb); have HW1 : Hid (Below w.heap.size w U1) := (unhide HW0).trans ((hb).mono (unhide HW0).size); have HX1 : Hid (IsBig U1 (.agg #[.slice a1 l1 c1]) 1) := hv; clear HR0 HW0 hv hb)))
  have hX : IsBig (U4.setRow w.heap.size #[.slice a5 l5 c5, .slice a6 l6 c6]) (.agg #[.slice a5 l5 c5]) P := (unhide HE4).setRow (unhide HR4) (nz2 _ _ _ _ _ _) _
  have hY : IsBig (U4.setRow w.heap.size #[.slice a5 l5 c5, .slice a6 l6 c6]) (.agg #[.slice a6 l6 c6]) 1 := (unhide HF4).setRow (unhide HR4) (nz2 _ _ _ _ _ _) _
  exact bodyPost_ret (v := .agg #[.slice a5 l5 c5, .slice a6 l6 c6]) (res59 Tryz.results48 _ _ w.heap.size _ rfl rfl ((unhide HR4).setRow _)) rfl ⟨_, rfl, IsSz.mk hX hY, below_setRow (unhide HW4) (Nat.le_refl _) _⟩
theorem tenTo_neg (n P : Nat) (w : World) (hp : 0 < n) (hn : n ≤ 4000) (hpw : ∀ W x, IsBig W x 1 → Calls Tryz.prog 100 #[x, .int .i64 (n : Int)] W fun e w' => ∃ a l c, e = .returned (.agg #[.slice a l c]) ∧ IsBig w' (.agg #[.slice a l c]) P ∧ Below W.heap.size W w') :
    Calls Tryz.prog 48 #[.int .i64 (-(n : Int))] w fun e w' => ∃ v, e = .returned v ∧ IsSz w' v 1 P ∧ Below w.heap.size w w' := by
  obtain ⟨V, hV⟩ : ∃ V, V = w.alloc (.cells #[.slice none 0 0, .slice none 0 0] 54) := ⟨_, rfl⟩
  have HR0 : Hid (OwnU V w.heap.size 54 #[.slice none 0 0, .slice none 0 0]) := by rw [hV]; exact OwnU.new _ _ _
  have HW0 : Hid (Below w.heap.size w V) := by rw [hV]; exact ((Below.refl _ _).alloc (by simp; try omega) _)
  have HV := hide hV
  have HPW := hide hpw
  have hnI : (n : Int) ≤ 4000 := by omega
  have hn0 : (0 : Int) ≤ n := by omega
  have HMX : Hid (max (n : Int) (-(n : Int)) = n ∧ max (-(n : Int)) (n : Int) = n) := ⟨by omega, by omega⟩
  have hnp : (0 : Int) < n := by omega
  clear hV hpw
  go_enter Tryz.func48, Tryz.ntmps48
  go_upto_region 1 with fail
  rw [← unhide HV]
  clear HV
  go_wp2_with (first
    | (have hchk := HW4; clear hchk; refine storeT 54 2 info59 rfl (.tmp 2) (.tmp 12) rfl w.heap.size #[.slice none 0 0, .slice none 0 0] #[.slice a5 l5 c5, .slice a6 l6 c6] rfl rfl rfl rfl (unhide HR4) (by kernel_rfl) ?_)
    | (have hchk := HW3; clear hchk; go_at_call 101; go_must (refine (turned_yes _ _ _ _ _ _ P 1 _ (unhide HQ3) (unhide HO3)).mono ?_; rintro e U4 ⟨_, rfl, ⟨a5, l5, c5, a6, l6, c6, rfl, hv1, hv2⟩, hb⟩; have HR4 : Hid (OwnU U4 w.heap.size 54 #[.slice none 0 0, .slice none 0 0]) := (unhide HR3).later (hb); have HW4 : Hid (Below w.heap.size w U4) := (unhide HW3).trans ((hb).mono (unhide HW3).size); have HX4 : Hid (IsBig U4 (.agg #[.slice a1 l1 c1]) 1) := (unhide HX3).later (hb); have HP4 : Hid (IsBig U4 (.agg #[.slice a2 l2 c2]) P) := (unhide HP3).later (hb); have HQ4 : Hid (IsBig U4 (.agg #[.slice a3 l3 c3]) P) := (unhide HQ3).later (hb); have HO4 : Hid (IsBig U4 (.agg #[.slice a4 l4 c4]) 1) := (unhide HO3).later (hb); have HE4 : Hid (IsBig U4 (.agg #[.slice a5 l5 c5]) 1) := hv1; have HF4 : Hid (IsBig U4 (.agg #[.slice a6 l6 c6]) P) := hv2; clear HR3 HW3 HX3 HP3 HQ3 HO3 hv1 hv2 hb))
    | (have hchk := HW2; clear hchk; go_at_call 46; go_must (refine (whole_any _ _ _ P _ (unhide HP2)).mono ?_; rintro e U3 ⟨_, rfl, ⟨a3, l3, c3, a4, l4, c4, rfl, hv1, hv2⟩, hb⟩; have HR3 : Hid (OwnU U3 w.heap.size 54 #[.slice none 0 0, .slice none 0 0]) := (unhide HR2).later (hb); have HW3 : Hid (Below w.heap.size w U3) := (unhide HW2).trans ((hb).mono (unhide HW2).size); have HX3 : Hid (IsBig U3 (.agg #[.slice a1 l1 c1]) 1) := (unhide HX2).later (hb); have HP3 : Hid (IsBig U3 (.agg #[.slice a2 l2 c2]) P) := (unhide HP2).later (hb); have HQ3 : Hid (IsBig U3 (.agg #[.slice a3 l3 c3]) P) := hv1; have HO3 : Hid (IsBig U3 (.agg #[.slice a4 l4 c4]) 1) := hv2; clear HR2 HW2 HX2 HP2 hv1 hv2 hb))
    | (have hchk := HW1; clear hchk; go_at_call 100; (first | rw [(unhide HMX).1] | rw [(unhide HMX).2]); go_must (refine (unhide HPW _ _ (unhide HX1)).mono ?_; rintro e U2 ⟨a2, l2, c2, rfl, hv, hb⟩; have HR2 : Hid (OwnU U2 w.heap.size 54 #[.slice none 0 0, .slice none 0 0]) := (unhide HR1).later (hb); have HW2 : Hid (Below w.heap.size w U2) := (unhide HW1).trans ((hb).mono (unhide HW1).size); have HX2 : Hid (IsBig U2 (.agg #[.slice a1 l1 c1]) 1) := (unhide HX1).later (hb); have HP2 : Hid (IsBig U2 (.agg #[.slice a2 l2 c2]) P) := hv; clear HR1 HW1 HX1 hv hb))
    | (have hchk := HW0; clear hchk; go_at_call 73; go_must (refine (bigOf_any 1 _ (by decide)).mono ?_; rintro e U1 ⟨a1, l1, c1, rfl, hv, hb⟩; have HR1 : Hid (OwnU U1 w.heap.size 54 #[.slice none 0 0, .slice none 0 0]) := (unhide HR0).later (hb); have HW1 : Hid (Below w.heap.size w U1) := (unhide HW0).trans ((hb).mono (unhide HW0).size); have HX1 : Hid (IsBig U1 (.agg #[.slice a1 l1 c1]) 1) := hv; clear HR0 HW0 hv hb)))
  have hX : IsBig (U4.setRow w.heap.size #[.slice a5 l5 c5, .slice a6 l6 c6]) (.agg #[.slice a5 l5 c5]) 1 := (unhide HE4).setRow (unhide HR4) (nz2 _ _ _ _ _ _) _
  have hY : IsBig (U4.setRow w.heap.size #[.slice a5 l5 c5, .slice a6 l6 c6]) (.agg #[.slice a6 l6 c6]) P := (unhide HF4).setRow (unhide HR4) (nz2 _ _ _ _ _ _) _
  exact bodyPost_ret (v := .agg #[.slice a5 l5 c5, .slice a6 l6 c6]) (res59 Tryz.results48 _ _ w.heap.size _ rfl rfl ((unhide HR4).setRow _)) rfl ⟨_, rfl, IsSz.mk hX hY, below_setRow (unhide HW4) (Nat.le_refl _) _⟩
theorem run_bits (b : Nat) (w : World) : (callFunc 26 #[.float .f64 b]).run Tryz.prog w = .ok (.value (.int .u64 b)) w :=
  (run_callFunc_extern Tryz.func26 (by kernel_rfl) (by kernel_rfl) (by kernel_rfl) (show Extern.find Tryz.f26 = some Extern.MathFloatBits.float64bits by kernel_rfl) _ _).trans rfl
theorem run_from (b : Int) (w : World) : (callFunc 35 #[.int .u64 b]).run Tryz.prog w = .ok (.value (.float .f64 b.toNat)) w :=
  (run_callFunc_extern Tryz.func35 (by kernel_rfl) (by kernel_rfl) (by kernel_rfl) (show Extern.find Tryz.f35 = some Extern.MathFloatBits.float64frombits by kernel_rfl) _ _).trans rfl
/-- No number: by its bits. -/
def nanB (b : Nat) : Bool := decide (9218868437227405312 < b % 9223372036854775808)
theorem sign_lt : Ieee.double.signWeight = 9223372036854775808 := by decide +kernel
theorem inf_is : Ieee.double.infRung = 9218868437227405312 := by decide +kernel
theorem binade_is : Ieee.double.binade = 4503599627370496 := by decide +kernel
theorem least_is : Ieee.double.leastPlace = -1074 := by decide +kernel
theorem order_self (b : Nat) : (FloatKind.f64.format.order b b == some Ordering.eq) = !nanB b := by
  show ((Ieee.double.read b).order (Ieee.double.read b) == some Ordering.eq) = _
  unfold nanB Ieee.Format.read
  simp only [sign_lt, inf_is, binade_is]
  by_cases h1 : b % 9223372036854775808 < 4503599627370496
  · rw [if_pos h1]
    have h : ¬ 9218868437227405312 < b % 9223372036854775808 := by omega
    simp [Ieee.Datum.order, h]
  · rw [if_neg h1]
    by_cases h2 : b % 9223372036854775808 < 9218868437227405312
    · rw [if_pos h2]
      have h : ¬ 9218868437227405312 < b % 9223372036854775808 := by omega
      simp [Ieee.Datum.order, h]
    · rw [if_neg h2]
      by_cases h3 : b % 9223372036854775808 = 9218868437227405312
      · rw [if_pos h3]; simp [Ieee.Datum.order, h3]
      · rw [if_neg h3]
        have h : 9218868437227405312 < b % 9223372036854775808 := by omega
        simp [Ieee.Datum.order, h]
theorem order_neq (b : Nat) : (FloatKind.f64.format.order b b != some Ordering.eq) = nanB b := by unfold bne; rw [order_self]; simp
/-- None is above the greatest finite one but what is infinite. -/
theorem gt_max (b : Nat) (hb : b < 18446744073709551616) : (FloatKind.f64.format.order b 9218868437227405311 == some Ordering.gt) = decide (b = 9218868437227405312) := by
  have hm : Ieee.double.read 9218868437227405311 = .number false 9007199254740991 971 := by decide +kernel
  show ((Ieee.double.read b).order (Ieee.double.read 9218868437227405311) == some Ordering.gt) = _
  rw [hm]
  have hfin : ∀ (s : Bool) (m : Nat) (i : Int), m ≤ 9007199254740991 → i ≤ 971 → ((Ieee.Datum.number s m i).order (.number false 9007199254740991 971) == some Ordering.gt) = false := by
    intro s m i hm hi
    have hmin : min i 971 = i := by omega
    simp only [Ieee.Datum.order, hmin, Int.sub_self, Int.toNat_zero]
    have h1 : Ieee.signed s m 0 ≤ (m : Int) := by unfold Ieee.signed; split <;> simp <;> omega
    have h2 : (m : Int) ≤ Ieee.signed false 9007199254740991 (971 - i).toNat := by
      unfold Ieee.signed
      rw [if_neg (by simp), Nat.shiftLeft_eq]
      have := Nat.le_mul_of_pos_right 9007199254740991 (Nat.two_pow_pos (971 - i).toNat)
      omega
    have h3 : Ieee.signed s m 0 ≤ Ieee.signed false 9007199254740991 (971 - i).toNat := Int.le_trans h1 h2
    generalize Ieee.signed s m 0 = x at *
    generalize Ieee.signed false 9007199254740991 (971 - i).toNat = y at *
    have : compare x y ≠ Ordering.gt := by
      simp only [compare, compareOfLessAndEq]
      split
      · simp
      · split
        · simp
        · omega
    cases h : compare x y <;> simp_all
  unfold Ieee.Format.read
  simp only [sign_lt, inf_is, binade_is, least_is]
  by_cases h1 : b % 9223372036854775808 < 4503599627370496
  · rw [if_pos h1, hfin _ _ _ (by omega) (by omega)]
    exact (decide_eq_false (by omega)).symm
  · rw [if_neg h1]
    by_cases h2 : b % 9223372036854775808 < 9218868437227405312
    · rw [if_pos h2, hfin _ _ _ (by omega) (by omega)]
      exact (decide_eq_false (by omega)).symm
    · rw [if_neg h2]
      by_cases h3 : b % 9223372036854775808 = 9218868437227405312
      · rw [if_pos h3]
        by_cases h4 : b = 9218868437227405312
        · subst h4; decide +kernel
        · have : (b / 9223372036854775808 % 2 == 1) = true := by rw [beq_iff_eq]; omega
          rw [this]
          simp [Ieee.Datum.order, h4]
      · rw [if_neg h3]
        have h4 : b ≠ 9218868437227405312 := by omega
        simp [Ieee.Datum.order, h4]
theorem and_low (b : Nat) : b &&& 9223372036854775807 = b % 9223372036854775808 := Nat.and_two_pow_sub_one_eq_mod b 63
theorem and_top (b : Nat) (hb : b < 18446744073709551616) : b &&& 9223372036854775808 = if b < 9223372036854775808 then 0 else 9223372036854775808 := by
  have e : (9223372036854775808 : Nat) = 2 ^ 63 := rfl
  apply Nat.eq_of_testBit_eq
  intro i
  rw [Nat.testBit_and]
  by_cases hi : 63 = i
  · subst hi
    rw [Nat.testBit_eq_decide_div_mod_eq]
    split
    · have h1 : b / 2 ^ 63 = 0 := by omega
      simp [h1]
    · have h1 : b / 2 ^ 63 = 1 := by omega
      simp [h1]
  · have h0 : (9223372036854775808 : Nat).testBit i = false := by rw [e, Nat.testBit_two_pow]; simpa using hi
    rw [h0, Bool.and_false]
    split
    · simp
    · exact h0.symm
theorem or_top (b : Nat) (hb : b < 9223372036854775808) : b ||| 9223372036854775808 = b + 9223372036854775808 := by
  have := Nat.two_pow_add_eq_or_of_lt (i := 63) (b := b) (by simpa using hb) 1
  rw [Nat.or_comm]
  simp at this
  first | omega | (rw [← this]; omega) | skip
theorem xor_all (b : Nat) (hb : b < 18446744073709551616) : b ^^^ 18446744073709551615 = 18446744073709551615 - b := by
  apply Nat.eq_of_testBit_eq
  intro i
  have e : 18446744073709551615 - b = 2 ^ 64 - (b + 1) := by omega
  rw [e, Nat.testBit_two_pow_sub_succ (by simpa using hb), Nat.testBit_xor]
  have e2 : (18446744073709551615 : Nat) = 2 ^ 64 - 1 := rfl
  rw [e2, Nat.testBit_two_pow_sub_one]
  by_cases hi : i < 64
  · simp [hi]
  · have : b.testBit i = false := Nat.testBit_lt_two_pow (Nat.lt_of_lt_of_le (by simpa using hb) (Nat.pow_le_pow_right (n := 2) (i := 64) (by decide) (by omega)))
    simp [hi, this]
theorem xor_top (b : Nat) (hb : b < 9223372036854775808) : b ^^^ 9223372036854775808 = b + 9223372036854775808 := by
  have h : b &&& 9223372036854775808 = 0 := by rw [and_top b (by omega), if_pos hb]
  have h2 := or_top b hb
  rw [← h2]
  apply Nat.eq_of_testBit_eq
  intro i
  have h3 : (b &&& 9223372036854775808).testBit i = false := by rw [h]; simp
  rw [Nat.testBit_and] at h3
  rw [Nat.testBit_xor, Nat.testBit_or]
  revert h3
  cases b.testBit i <;> cases (9223372036854775808 : Nat).testBit i <;> simp
attribute [local go_sem] run_bits run_from
theorem isNaN_any (b : Nat) (w : World) : Calls Tryz.prog 36 #[.float .f64 b] w fun e w' => e = .returned (.bool (nanB b)) ∧ w' = w := by
  have h2 := order_neq b
  go_enter Tryz.func36, Tryz.ntmps36
  go_wp2
  go_ret
  exact ⟨rfl, rfl⟩
theorem andNot_top (b : Nat) (hb : b < 18446744073709551616) : bits BinOp.andNot IntKind.u64 (b : Int) 9223372036854775808 = ((b % 9223372036854775808 : Nat) : Int) := by
  have := u64_andNot_nat b 9223372036854775808 hb (by decide)
  rw [← and_low]; exact this
theorem andI_top (b : Nat) (hb : b < 18446744073709551616) : bits BinOp.and IntKind.u64 (b : Int) 9223372036854775808 = if b < 9223372036854775808 then 0 else 9223372036854775808 := by
  have := u64_and_nat b 9223372036854775808 hb (by decide)
  rw [and_top b hb] at this
  refine this.trans ?_
  split <;> rfl
theorem orI_top (b : Nat) (hb : b < 9223372036854775808) : bits BinOp.or IntKind.u64 (b : Int) 9223372036854775808 = ((b + 9223372036854775808 : Nat) : Int) := by
  have := u64_or_nat b 9223372036854775808 (by omega) (by decide)
  rw [or_top b hb] at this; exact this
theorem abs_any (b : Nat) (hb : b < 18446744073709551616) (w : World) : Calls Tryz.prog 65 #[.float .f64 b] w fun e w' => e = .returned (.float .f64 (b % 9223372036854775808)) ∧ w' = w := by
  have h := andNot_top b hb
  go_enter Tryz.func65, Tryz.ntmps65
  go_wp2
  go_ret
  exact ⟨rfl, rfl⟩
/-- A number that rises with the order. -/
def rk (b : Nat) : Nat := if nanB b then 18446744073709551615 else if b < 9223372036854775808 then b + 9223372036854775808 else 18446744073709551615 - b
theorem rank_any (b : Nat) (hb : b < 18446744073709551616) (w : World) : Calls Tryz.prog 61 #[.float .f64 b] w fun e w' => e = .returned (.int .u64 (rk b : Nat)) ∧ w' = w := by
  have h := andI_top b hb
  unfold rk
  by_cases hn : nanB b = true
  · rw [if_pos hn]
    go_enter Tryz.func61, Tryz.ntmps61
    go_wp2_with (go_at_call 36; refine (isNaN_any b _).mono ?_; rintro e w' ⟨rfl, rfl⟩)
    go_ret
    exact ⟨rfl, rfl⟩
  · have hn' : nanB b = false := by simpa using hn
    rw [if_neg hn]
    by_cases hs : b < 9223372036854775808
    · rw [if_pos hs] at h ⊢
      have h3 := orI_top b hs
      go_enter Tryz.func61, Tryz.ntmps61
      go_wp2_with (go_at_call 36; refine (isNaN_any b _).mono ?_; rintro e w' ⟨rfl, rfl⟩)
      go_ret
      exact ⟨rfl, rfl⟩
    · rw [if_neg hs] at h ⊢
      have h3 : bits BinOp.xor IntKind.u64 IntKind.u64.max (b : Int) = ((18446744073709551615 - b : Nat) : Int) := by
        have := u64_xor_nat 18446744073709551615 b (by decide) hb
        rw [Nat.xor_comm, xor_all b hb] at this; exact this
      go_enter Tryz.func61, Tryz.ntmps61
      go_wp2_with (go_at_call 36; refine (isNaN_any b _).mono ?_; rintro e w' ⟨rfl, rfl⟩)
      go_ret
      exact ⟨rfl, rfl⟩
theorem rk_lt (b : Nat) : rk b < 18446744073709551616 := by
  unfold rk
  split
  · decide
  · split <;> omega
end Go.Proofs.YtijifpbpjinmhaaGreatDoor
namespace Go.Proofs.YtijifpbpjinmhaaGreatDoor
open Go.RowKit
attribute [local go_sem] run_bits run_from
/-- What cut tells of a float. -/
def CutAns (b m : Nat) (e : Int) : Prop := ∀ w : World, Calls Tryz.prog 66 #[.float .f64 b] w fun r w' => r = .returned (.tuple #[.int .u64 (m : Int), .int .i64 e]) ∧ w' = w
theorem cut_lo : CutAns 4591870180066957721 7205759403792793 (-56) := by
  intro w
  have h1 : bits BinOp.and IntKind.u64 1019 2047 = 1019 := by decide +kernel
  go_enter Tryz.func66, Tryz.ntmps66
  go_wp2
  exact bodyPost_ret (v := .tuple #[.int .u64 (7205759403792793 : Nat), .int .i64 (-56)]) (by simp [results, Tryz.results66, go_sem]) rfl ⟨rfl, rfl⟩
theorem cut_hi : CutAns 4591870180066957722 7205759403792794 (-56) := by
  intro w
  have h1 : bits BinOp.and IntKind.u64 1019 2047 = 1019 := by decide +kernel
  go_enter Tryz.func66, Tryz.ntmps66
  go_wp2
  exact bodyPost_ret (v := .tuple #[.int .u64 (7205759403792794 : Nat), .int .i64 (-56)]) (by simp [results, Tryz.results66, go_sem]) rfl ⟨rfl, rfl⟩
theorem cut_zero : CutAns 0 0 (-1074) := by
  intro w
  have h1 : bits BinOp.and IntKind.u64 0 2047 = 0 := by decide +kernel
  go_enter Tryz.func66, Tryz.ntmps66
  go_wp2
  exact bodyPost_ret (v := .tuple #[.int .u64 (0 : Nat), .int .i64 (-1074)]) (by simp [results, Tryz.results66, go_sem]) rfl ⟨rfl, rfl⟩
end Go.Proofs.YtijifpbpjinmhaaGreatDoor
namespace Go.Proofs.YtijifpbpjinmhaaGreatDoor
open Go.RowKit
structure St (w : World) (bl : List (Nat × Nat × Array Value)) (bg : List (Value × Nat)) (W : World) : Prop where
  own : ∀ x ∈ bl, OwnU W x.1 x.2.1 x.2.2
  big : ∀ x ∈ bg, IsBig W x.1 x.2
  ne : bl.Pairwise fun x y => x.1 ≠ y.1
  low : ∀ x ∈ bl, w.heap.size ≤ x.1
  below : Below w.heap.size w W
variable {w W V : World} {bl : List (Nat × Nat × Array Value)} {bg : List (Value × Nat)}
theorem St.nil (h : Below w.heap.size w W) : St w [] [] W := ⟨fun _ h => by (cases h), fun _ h => (by cases h), List.Pairwise.nil, fun _ h => by (cases h), h⟩
theorem St.later (h : St w bl bg W) (hb : Below W.heap.size W V) : St w bl bg V :=
  ⟨fun x hx => (h.own x hx).later hb, fun x hx => (h.big x hx).later hb, h.ne, h.low, h.below.trans (hb.mono h.below.size)⟩
theorem St.new (h : St w bl bg W) (vs : Array Value) (ty : Nat) : St w ((W.heap.size, ty, vs) :: bl) bg (W.alloc (.cells vs ty)) := by
  have t := h.later (albel W (.cells vs ty))
  refine ⟨fun x hx => ?_, t.big, List.Pairwise.cons (fun y hy => Nat.ne_of_gt (h.own y hy).lt) h.ne, fun x hx => ?_, t.below⟩
  · rcases List.mem_cons.1 hx with rfl | hx
    · exact OwnU.new _ _ _
    · exact t.own x hx
  · rcases List.mem_cons.1 hx with rfl | hx
    · exact h.below.size
    · exact h.low x hx
theorem St.push (h : St w bl bg W) {v : Value} {n : Nat} (hv : IsBig W v n) : St w bl ((v, n) :: bg) W :=
  ⟨h.own, fun x hx => by rcases List.mem_cons.1 hx with rfl | hx; · exact hv
                         · exact h.big x hx, h.ne, h.low, h.below⟩
theorem St.rot {x : Nat × Nat × Array Value} (h : St w (x :: bl) bg W) : St w (bl ++ [x]) bg W :=
  ⟨fun y hy => h.own y (by simp at hy ⊢; exact hy.symm), h.big, by
    have := List.pairwise_cons.1 h.ne
    exact List.pairwise_append.2 ⟨this.2, List.pairwise_singleton _ _, fun a ha b hb => by rw [List.mem_singleton.1 hb]; exact (this.1 a ha).symm⟩, fun y hy => h.low y (by simp at hy ⊢; exact hy.symm), h.below⟩
theorem St.tail {x : Nat × Nat × Array Value} (h : St w (x :: bl) bg W) : St w bl bg W :=
  ⟨fun y hy => h.own y (List.mem_cons_of_mem _ hy), h.big, (List.pairwise_cons.1 h.ne).2, fun y hy => h.low y (List.mem_cons_of_mem _ hy), h.below⟩
theorem St.sw {x y : Nat × Nat × Array Value} (h : St w (x :: y :: bl) bg W) : St w (y :: x :: bl) bg W := by
  have p := List.pairwise_cons.1 h.ne
  have q := List.pairwise_cons.1 p.2
  have m : ∀ z, z ∈ y :: x :: bl → z ∈ x :: y :: bl := fun z hz => by simp at hz ⊢; rcases hz with h | h | h <;> simp [h]
  refine ⟨fun z hz => h.own z (m z hz), h.big, List.Pairwise.cons ?_ (List.Pairwise.cons (fun z hz => p.1 z (List.mem_cons_of_mem _ hz)) q.2), fun z hz => h.low z (m z hz), h.below⟩
  intro z hz
  rcases List.mem_cons.1 hz with rfl | hz
  · exact (p.1 y List.mem_cons_self).symm
  · exact q.1 z hz
theorem St.first (h : St w bl bg W) (n : Nat) : St w bl (bg.take n) W := ⟨h.own, fun x hx => h.big x (List.mem_of_mem_take hx), h.ne, h.low, h.below⟩
theorem St.no3 {x y z : Value × Nat} {l : List (Value × Nat)} (h : St w bl (x :: y :: z :: l) W) : St w bl (x :: y :: l) W := ⟨h.own, fun a ha => h.big a (by simp at ha ⊢; rcases ha with h | h | h <;> simp [h]), h.ne, h.low, h.below⟩
theorem St.set {g ty : Nat} {vs : Array Value} (h : St w ((g, ty, vs) :: bl) bg W) (hn : ∀ (i : Nat) x, vs[i]? = some x → ∀ k n, x ≠ .int k n) (us : Array Value) : St w ((g, ty, us) :: bl) bg (W.setRow g us) := by
  have ho := h.own _ List.mem_cons_self
  have hp := List.pairwise_cons.1 h.ne
  refine ⟨fun x hx => ?_, fun x hx => (h.big x hx).setRow ho hn us, List.Pairwise.cons hp.1 hp.2, fun x hx => ?_, below_setRow h.below (h.low _ List.mem_cons_self) _⟩
  · rcases List.mem_cons.1 hx with rfl | hx
    · exact ho.setRow us
    · exact (h.own x (List.mem_cons_of_mem _ hx)).other (Ne.symm (hp.1 x hx)) us
  · rcases List.mem_cons.1 hx with rfl | hx
    · exact h.low (g, ty, vs) List.mem_cons_self
    · exact h.low x (List.mem_cons_of_mem _ hx)
theorem St.at (h : St w bl bg W) (i : Nat) {g ty : Nat} {vs : Array Value} (e : bl[i]? = some (g, ty, vs)) : OwnU W g ty vs := h.own _ (List.mem_of_getElem? e)
theorem St.bgt (h : St w bl bg W) (i : Nat) {v : Value} {n : Nat} (e : bg[i]? = some (v, n)) : IsBig W v n := h.big _ (List.mem_of_getElem? e)
end Go.Proofs.YtijifpbpjinmhaaGreatDoor

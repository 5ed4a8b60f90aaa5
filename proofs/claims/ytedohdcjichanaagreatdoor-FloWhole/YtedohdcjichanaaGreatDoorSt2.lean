/- All blocks that a call owns, all Bigs beside them, in one. -/
import Derived.Test.YtedohdcjichanaaGreatDoorSz
import Derived.Test.YtedohdcjichanaaGreatDoorOps
import Derived.WalkLawsBesides
import Derived.Test.YtedohdcjichanaaGreatDoorIntRows
import Derived.Test.YtedohdcjichanaaGreatDoorCmp
namespace Go.Proofs.YtedohdcjichanaaGreatDoor
open Go.RowKit
set_option maxRecDepth 100000 in
set_option maxHeartbeats 4000000 in
theorem twoTo_pos (n P : Nat) (w : World) (hn : n ≤ 4000) (hpw : ∀ W x, IsBig W x 2 → Calls Tryz.prog 64 #[x, .int .i64 (n : Int)] W fun e w' => ∃ a l c, e = .returned (.agg #[.slice a l c]) ∧ IsBig w' (.agg #[.slice a l c]) P ∧ Below W.heap.size W w') :
    Calls Tryz.prog 43 #[.int .i64 ((n : Int))] w fun e w' => ∃ v, e = .returned v ∧ IsSz w' v P 1 ∧ Below w.heap.size w w' := by
  obtain ⟨V, hV⟩ : ∃ V, V = w.alloc (.cells #[.slice none 0 0, .slice none 0 0] 59) := ⟨_, rfl⟩
  have HR0 : Hid (OwnU V w.heap.size 59 #[.slice none 0 0, .slice none 0 0]) := by rw [hV]; exact OwnU.new _ _ _
  have HW0 : Hid (Below w.heap.size w V) := by rw [hV]; exact ((Below.refl _ _).alloc (by simp; try omega) _)
  have HV := hide hV
  have HPW := hide hpw
  have hnI : (n : Int) ≤ 4000 := by omega
  have hn0 : (0 : Int) ≤ n := by omega
  have HMX : Hid (max (n : Int) (-(n : Int)) = n ∧ max (-(n : Int)) (n : Int) = n) := ⟨by omega, by omega⟩
  clear hV hpw
  go_enter Tryz.func43, Tryz.ntmps43
  go_upto_region 1 with fail
  rw [← unhide HV]
  clear HV
  go_wp2_with (first
    | (have hchk := HW4; clear hchk; refine storeT 59 2 info59 rfl (.tmp 2) (.tmp 12) rfl w.heap.size #[.slice none 0 0, .slice none 0 0] #[.slice a5 l5 c5, .slice a6 l6 c6] rfl rfl rfl rfl (unhide HR4) (by kernel_rfl) ?_)
    | (have hchk := HW3; clear hchk; go_at_call 65; go_must (refine (turned_no _ _ _ _ _ _ P 1 _ (unhide HQ3) (unhide HO3)).mono ?_; rintro e U4 ⟨_, rfl, ⟨a5, l5, c5, a6, l6, c6, rfl, hv1, hv2⟩, hb⟩; have HR4 : Hid (OwnU U4 w.heap.size 59 #[.slice none 0 0, .slice none 0 0]) := (unhide HR3).later (hb); have HW4 : Hid (Below w.heap.size w U4) := (unhide HW3).trans ((hb).mono (unhide HW3).size); have HX4 : Hid (IsBig U4 (.agg #[.slice a1 l1 c1]) 2) := (unhide HX3).later (hb); have HP4 : Hid (IsBig U4 (.agg #[.slice a2 l2 c2]) P) := (unhide HP3).later (hb); have HQ4 : Hid (IsBig U4 (.agg #[.slice a3 l3 c3]) P) := (unhide HQ3).later (hb); have HO4 : Hid (IsBig U4 (.agg #[.slice a4 l4 c4]) 1) := (unhide HO3).later (hb); have HE4 : Hid (IsBig U4 (.agg #[.slice a5 l5 c5]) P) := hv1; have HF4 : Hid (IsBig U4 (.agg #[.slice a6 l6 c6]) 1) := hv2; clear HR3 HW3 HX3 HP3 HQ3 HO3 hv1 hv2 hb))
    | (have hchk := HW2; clear hchk; go_at_call 40; go_must (refine (whole_any _ _ _ P _ (unhide HP2)).mono ?_; rintro e U3 ⟨_, rfl, ⟨a3, l3, c3, a4, l4, c4, rfl, hv1, hv2⟩, hb⟩; have HR3 : Hid (OwnU U3 w.heap.size 59 #[.slice none 0 0, .slice none 0 0]) := (unhide HR2).later (hb); have HW3 : Hid (Below w.heap.size w U3) := (unhide HW2).trans ((hb).mono (unhide HW2).size); have HX3 : Hid (IsBig U3 (.agg #[.slice a1 l1 c1]) 2) := (unhide HX2).later (hb); have HP3 : Hid (IsBig U3 (.agg #[.slice a2 l2 c2]) P) := (unhide HP2).later (hb); have HQ3 : Hid (IsBig U3 (.agg #[.slice a3 l3 c3]) P) := hv1; have HO3 : Hid (IsBig U3 (.agg #[.slice a4 l4 c4]) 1) := hv2; clear HR2 HW2 HX2 HP2 hv1 hv2 hb))
    | (have hchk := HW1; clear hchk; go_at_call 64; (first | rw [(unhide HMX).1] | rw [(unhide HMX).2]); go_must (refine (unhide HPW _ _ (unhide HX1)).mono ?_; rintro e U2 ⟨a2, l2, c2, rfl, hv, hb⟩; have HR2 : Hid (OwnU U2 w.heap.size 59 #[.slice none 0 0, .slice none 0 0]) := (unhide HR1).later (hb); have HW2 : Hid (Below w.heap.size w U2) := (unhide HW1).trans ((hb).mono (unhide HW1).size); have HX2 : Hid (IsBig U2 (.agg #[.slice a1 l1 c1]) 2) := (unhide HX1).later (hb); have HP2 : Hid (IsBig U2 (.agg #[.slice a2 l2 c2]) P) := hv; clear HR1 HW1 HX1 hv hb))
    | (have hchk := HW0; clear hchk; go_at_call 41; go_must (refine (bigOf_any 2 _ (by decide)).mono ?_; rintro e U1 ⟨a1, l1, c1, rfl, hv, hb⟩; have HR1 : Hid (OwnU U1 w.heap.size 59 #[.slice none 0 0, .slice none 0 0]) := (unhide HR0).later (hb); have HW1 : Hid (Below w.heap.size w U1) := (unhide HW0).trans ((hb).mono (unhide HW0).size); have HX1 : Hid (IsBig U1 (.agg #[.slice a1 l1 c1]) 2) := hv; clear HR0 HW0 hv hb)))
  have hX : IsBig (U4.setRow w.heap.size #[.slice a5 l5 c5, .slice a6 l6 c6]) (.agg #[.slice a5 l5 c5]) P := (unhide HE4).setRow (unhide HR4) (nz2 _ _ _ _ _ _) _
  have hY : IsBig (U4.setRow w.heap.size #[.slice a5 l5 c5, .slice a6 l6 c6]) (.agg #[.slice a6 l6 c6]) 1 := (unhide HF4).setRow (unhide HR4) (nz2 _ _ _ _ _ _) _
  exact bodyPost_ret (v := .agg #[.slice a5 l5 c5, .slice a6 l6 c6]) (res59 Tryz.results43 _ _ w.heap.size _ rfl rfl ((unhide HR4).setRow _)) rfl ⟨_, rfl, IsSz.mk hX hY, below_setRow (unhide HW4) (Nat.le_refl _) _⟩
set_option maxRecDepth 100000 in
set_option maxHeartbeats 4000000 in
theorem twoTo_neg (n P : Nat) (w : World) (hp : 0 < n) (hn : n ≤ 4000) (hpw : ∀ W x, IsBig W x 2 → Calls Tryz.prog 64 #[x, .int .i64 (n : Int)] W fun e w' => ∃ a l c, e = .returned (.agg #[.slice a l c]) ∧ IsBig w' (.agg #[.slice a l c]) P ∧ Below W.heap.size W w') :
    Calls Tryz.prog 43 #[.int .i64 (-(n : Int))] w fun e w' => ∃ v, e = .returned v ∧ IsSz w' v 1 P ∧ Below w.heap.size w w' := by
  obtain ⟨V, hV⟩ : ∃ V, V = w.alloc (.cells #[.slice none 0 0, .slice none 0 0] 59) := ⟨_, rfl⟩
  have HR0 : Hid (OwnU V w.heap.size 59 #[.slice none 0 0, .slice none 0 0]) := by rw [hV]; exact OwnU.new _ _ _
  have HW0 : Hid (Below w.heap.size w V) := by rw [hV]; exact ((Below.refl _ _).alloc (by simp; try omega) _)
  have HV := hide hV
  have HPW := hide hpw
  have hnI : (n : Int) ≤ 4000 := by omega
  have hn0 : (0 : Int) ≤ n := by omega
  have HMX : Hid (max (n : Int) (-(n : Int)) = n ∧ max (-(n : Int)) (n : Int) = n) := ⟨by omega, by omega⟩
  have hnp : (0 : Int) < n := by omega
  clear hV hpw
  go_enter Tryz.func43, Tryz.ntmps43
  go_upto_region 1 with fail
  rw [← unhide HV]
  clear HV
  go_wp2_with (first
    | (have hchk := HW4; clear hchk; refine storeT 59 2 info59 rfl (.tmp 2) (.tmp 12) rfl w.heap.size #[.slice none 0 0, .slice none 0 0] #[.slice a5 l5 c5, .slice a6 l6 c6] rfl rfl rfl rfl (unhide HR4) (by kernel_rfl) ?_)
    | (have hchk := HW3; clear hchk; go_at_call 65; go_must (refine (turned_yes _ _ _ _ _ _ P 1 _ (unhide HQ3) (unhide HO3)).mono ?_; rintro e U4 ⟨_, rfl, ⟨a5, l5, c5, a6, l6, c6, rfl, hv1, hv2⟩, hb⟩; have HR4 : Hid (OwnU U4 w.heap.size 59 #[.slice none 0 0, .slice none 0 0]) := (unhide HR3).later (hb); have HW4 : Hid (Below w.heap.size w U4) := (unhide HW3).trans ((hb).mono (unhide HW3).size); have HX4 : Hid (IsBig U4 (.agg #[.slice a1 l1 c1]) 2) := (unhide HX3).later (hb); have HP4 : Hid (IsBig U4 (.agg #[.slice a2 l2 c2]) P) := (unhide HP3).later (hb); have HQ4 : Hid (IsBig U4 (.agg #[.slice a3 l3 c3]) P) := (unhide HQ3).later (hb); have HO4 : Hid (IsBig U4 (.agg #[.slice a4 l4 c4]) 1) := (unhide HO3).later (hb); have HE4 : Hid (IsBig U4 (.agg #[.slice a5 l5 c5]) 1) := hv1; have HF4 : Hid (IsBig U4 (.agg #[.slice a6 l6 c6]) P) := hv2; clear HR3 HW3 HX3 HP3 HQ3 HO3 hv1 hv2 hb))
    | (have hchk := HW2; clear hchk; go_at_call 40; go_must (refine (whole_any _ _ _ P _ (unhide HP2)).mono ?_; rintro e U3 ⟨_, rfl, ⟨a3, l3, c3, a4, l4, c4, rfl, hv1, hv2⟩, hb⟩; have HR3 : Hid (OwnU U3 w.heap.size 59 #[.slice none 0 0, .slice none 0 0]) := (unhide HR2).later (hb); have HW3 : Hid (Below w.heap.size w U3) := (unhide HW2).trans ((hb).mono (unhide HW2).size); have HX3 : Hid (IsBig U3 (.agg #[.slice a1 l1 c1]) 2) := (unhide HX2).later (hb); have HP3 : Hid (IsBig U3 (.agg #[.slice a2 l2 c2]) P) := (unhide HP2).later (hb); have HQ3 : Hid (IsBig U3 (.agg #[.slice a3 l3 c3]) P) := hv1; have HO3 : Hid (IsBig U3 (.agg #[.slice a4 l4 c4]) 1) := hv2; clear HR2 HW2 HX2 HP2 hv1 hv2 hb))
    | (have hchk := HW1; clear hchk; go_at_call 64; (first | rw [(unhide HMX).1] | rw [(unhide HMX).2]); go_must (refine (unhide HPW _ _ (unhide HX1)).mono ?_; rintro e U2 ⟨a2, l2, c2, rfl, hv, hb⟩; have HR2 : Hid (OwnU U2 w.heap.size 59 #[.slice none 0 0, .slice none 0 0]) := (unhide HR1).later (hb); have HW2 : Hid (Below w.heap.size w U2) := (unhide HW1).trans ((hb).mono (unhide HW1).size); have HX2 : Hid (IsBig U2 (.agg #[.slice a1 l1 c1]) 2) := (unhide HX1).later (hb); have HP2 : Hid (IsBig U2 (.agg #[.slice a2 l2 c2]) P) := hv; clear HR1 HW1 HX1 hv hb))
    | (have hchk := HW0; clear hchk; go_at_call 41; go_must (refine (bigOf_any 2 _ (by decide)).mono ?_; rintro e U1 ⟨a1, l1, c1, rfl, hv, hb⟩; have HR1 : Hid (OwnU U1 w.heap.size 59 #[.slice none 0 0, .slice none 0 0]) := (unhide HR0).later (hb); have HW1 : Hid (Below w.heap.size w U1) := (unhide HW0).trans ((hb).mono (unhide HW0).size); have HX1 : Hid (IsBig U1 (.agg #[.slice a1 l1 c1]) 2) := hv; clear HR0 HW0 hv hb)))
  have hX : IsBig (U4.setRow w.heap.size #[.slice a5 l5 c5, .slice a6 l6 c6]) (.agg #[.slice a5 l5 c5]) 1 := (unhide HE4).setRow (unhide HR4) (nz2 _ _ _ _ _ _) _
  have hY : IsBig (U4.setRow w.heap.size #[.slice a5 l5 c5, .slice a6 l6 c6]) (.agg #[.slice a6 l6 c6]) P := (unhide HF4).setRow (unhide HR4) (nz2 _ _ _ _ _ _) _
  exact bodyPost_ret (v := .agg #[.slice a5 l5 c5, .slice a6 l6 c6]) (res59 Tryz.results43 _ _ w.heap.size _ rfl rfl ((unhide HR4).setRow _)) rfl ⟨_, rfl, IsSz.mk hX hY, below_setRow (unhide HW4) (Nat.le_refl _) _⟩
set_option maxRecDepth 100000 in
set_option maxHeartbeats 4000000 in
theorem tenTo_neg (n P : Nat) (w : World) (hp : 0 < n) (hn : n ≤ 4000) (hpw : ∀ W x, IsBig W x 1 → Calls Tryz.prog 102 #[x, .int .i64 (n : Int)] W fun e w' => ∃ a l c, e = .returned (.agg #[.slice a l c]) ∧ IsBig w' (.agg #[.slice a l c]) P ∧ Below W.heap.size W w') :
    Calls Tryz.prog 80 #[.int .i64 (-(n : Int))] w fun e w' => ∃ v, e = .returned v ∧ IsSz w' v 1 P ∧ Below w.heap.size w w' := by
  obtain ⟨V, hV⟩ : ∃ V, V = w.alloc (.cells #[.slice none 0 0, .slice none 0 0] 59) := ⟨_, rfl⟩
  have HR0 : Hid (OwnU V w.heap.size 59 #[.slice none 0 0, .slice none 0 0]) := by rw [hV]; exact OwnU.new _ _ _
  have HW0 : Hid (Below w.heap.size w V) := by rw [hV]; exact ((Below.refl _ _).alloc (by simp; try omega) _)
  have HV := hide hV
  have HPW := hide hpw
  have hnI : (n : Int) ≤ 4000 := by omega
  have hn0 : (0 : Int) ≤ n := by omega
  have HMX : Hid (max (n : Int) (-(n : Int)) = n ∧ max (-(n : Int)) (n : Int) = n) := ⟨by omega, by omega⟩
  have hnp : (0 : Int) < n := by omega
  clear hV hpw
  go_enter Tryz.func80, Tryz.ntmps80
  go_upto_region 1 with fail
  rw [← unhide HV]
  clear HV
  go_wp2_with (first
    | (have hchk := HW4; clear hchk; refine storeT 59 2 info59 rfl (.tmp 2) (.tmp 12) rfl w.heap.size #[.slice none 0 0, .slice none 0 0] #[.slice a5 l5 c5, .slice a6 l6 c6] rfl rfl rfl rfl (unhide HR4) (by kernel_rfl) ?_)
    | (have hchk := HW3; clear hchk; go_at_call 65; go_must (refine (turned_yes _ _ _ _ _ _ P 1 _ (unhide HQ3) (unhide HO3)).mono ?_; rintro e U4 ⟨_, rfl, ⟨a5, l5, c5, a6, l6, c6, rfl, hv1, hv2⟩, hb⟩; have HR4 : Hid (OwnU U4 w.heap.size 59 #[.slice none 0 0, .slice none 0 0]) := (unhide HR3).later (hb); have HW4 : Hid (Below w.heap.size w U4) := (unhide HW3).trans ((hb).mono (unhide HW3).size); have HX4 : Hid (IsBig U4 (.agg #[.slice a1 l1 c1]) 1) := (unhide HX3).later (hb); have HP4 : Hid (IsBig U4 (.agg #[.slice a2 l2 c2]) P) := (unhide HP3).later (hb); have HQ4 : Hid (IsBig U4 (.agg #[.slice a3 l3 c3]) P) := (unhide HQ3).later (hb); have HO4 : Hid (IsBig U4 (.agg #[.slice a4 l4 c4]) 1) := (unhide HO3).later (hb); have HE4 : Hid (IsBig U4 (.agg #[.slice a5 l5 c5]) 1) := hv1; have HF4 : Hid (IsBig U4 (.agg #[.slice a6 l6 c6]) P) := hv2; clear HR3 HW3 HX3 HP3 HQ3 HO3 hv1 hv2 hb))
    | (have hchk := HW2; clear hchk; go_at_call 40; go_must (refine (whole_any _ _ _ P _ (unhide HP2)).mono ?_; rintro e U3 ⟨_, rfl, ⟨a3, l3, c3, a4, l4, c4, rfl, hv1, hv2⟩, hb⟩; have HR3 : Hid (OwnU U3 w.heap.size 59 #[.slice none 0 0, .slice none 0 0]) := (unhide HR2).later (hb); have HW3 : Hid (Below w.heap.size w U3) := (unhide HW2).trans ((hb).mono (unhide HW2).size); have HX3 : Hid (IsBig U3 (.agg #[.slice a1 l1 c1]) 1) := (unhide HX2).later (hb); have HP3 : Hid (IsBig U3 (.agg #[.slice a2 l2 c2]) P) := (unhide HP2).later (hb); have HQ3 : Hid (IsBig U3 (.agg #[.slice a3 l3 c3]) P) := hv1; have HO3 : Hid (IsBig U3 (.agg #[.slice a4 l4 c4]) 1) := hv2; clear HR2 HW2 HX2 HP2 hv1 hv2 hb))
    | (have hchk := HW1; clear hchk; go_at_call 102; (first | rw [(unhide HMX).1] | rw [(unhide HMX).2]); go_must (refine (unhide HPW _ _ (unhide HX1)).mono ?_; rintro e U2 ⟨a2, l2, c2, rfl, hv, hb⟩; have HR2 : Hid (OwnU U2 w.heap.size 59 #[.slice none 0 0, .slice none 0 0]) := (unhide HR1).later (hb); have HW2 : Hid (Below w.heap.size w U2) := (unhide HW1).trans ((hb).mono (unhide HW1).size); have HX2 : Hid (IsBig U2 (.agg #[.slice a1 l1 c1]) 1) := (unhide HX1).later (hb); have HP2 : Hid (IsBig U2 (.agg #[.slice a2 l2 c2]) P) := hv; clear HR1 HW1 HX1 hv hb))
    | (have hchk := HW0; clear hchk; go_at_call 41; go_must (refine (bigOf_any 1 _ (by decide)).mono ?_; rintro e U1 ⟨a1, l1, c1, rfl, hv, hb⟩; have HR1 : Hid (OwnU U1 w.heap.size 59 #[.slice none 0 0, .slice none 0 0]) := (unhide HR0).later (hb); have HW1 : Hid (Below w.heap.size w U1) := (unhide HW0).trans ((hb).mono (unhide HW0).size); have HX1 : Hid (IsBig U1 (.agg #[.slice a1 l1 c1]) 1) := hv; clear HR0 HW0 hv hb)))
  have hX : IsBig (U4.setRow w.heap.size #[.slice a5 l5 c5, .slice a6 l6 c6]) (.agg #[.slice a5 l5 c5]) 1 := (unhide HE4).setRow (unhide HR4) (nz2 _ _ _ _ _ _) _
  have hY : IsBig (U4.setRow w.heap.size #[.slice a5 l5 c5, .slice a6 l6 c6]) (.agg #[.slice a6 l6 c6]) P := (unhide HF4).setRow (unhide HR4) (nz2 _ _ _ _ _ _) _
  exact bodyPost_ret (v := .agg #[.slice a5 l5 c5, .slice a6 l6 c6]) (res59 Tryz.results80 _ _ w.heap.size _ rfl rfl ((unhide HR4).setRow _)) rfl ⟨_, rfl, IsSz.mk hX hY, below_setRow (unhide HW4) (Nat.le_refl _) _⟩
end Go.Proofs.YtedohdcjichanaaGreatDoor

namespace Go.Proofs.YtedohdcjichanaaGreatDoor
open Go.RowKit
attribute [local go_sem] run_bits run_from
/-- What cut tells of a float. -/
def CutAns (b m : Nat) (e : Int) : Prop := ∀ w : World, Calls Tryz.prog 77 #[.float .f64 b] w fun r w' => r = .returned (.tuple #[.int .u64 (m : Int), .int .i64 e]) ∧ w' = w
set_option maxRecDepth 100000 in
theorem cut_lo : CutAns 4591870180066957721 7205759403792793 (-56) := by
  intro w
  have h1 : bits BinOp.and IntKind.u64 1019 2047 = 1019 := by decide +kernel
  go_enter Tryz.func77, Tryz.ntmps77
  go_wp2
  exact bodyPost_ret (v := .tuple #[.int .u64 (7205759403792793 : Nat), .int .i64 (-56)]) (by simp [results, Tryz.results77, go_sem]) rfl ⟨rfl, rfl⟩
set_option maxRecDepth 100000 in
theorem cut_hi : CutAns 4591870180066957722 7205759403792794 (-56) := by
  intro w
  have h1 : bits BinOp.and IntKind.u64 1019 2047 = 1019 := by decide +kernel
  go_enter Tryz.func77, Tryz.ntmps77
  go_wp2
  exact bodyPost_ret (v := .tuple #[.int .u64 (7205759403792794 : Nat), .int .i64 (-56)]) (by simp [results, Tryz.results77, go_sem]) rfl ⟨rfl, rfl⟩
set_option maxRecDepth 100000 in
theorem cut_zero : CutAns 0 0 (-1074) := by
  intro w
  have h1 : bits BinOp.and IntKind.u64 0 2047 = 0 := by decide +kernel
  go_enter Tryz.func77, Tryz.ntmps77
  go_wp2
  exact bodyPost_ret (v := .tuple #[.int .u64 (0 : Nat), .int .i64 (-1074)]) (by simp [results, Tryz.results77, go_sem]) rfl ⟨rfl, rfl⟩
end Go.Proofs.YtedohdcjichanaaGreatDoor

namespace Go.Proofs.YtedohdcjichanaaGreatDoor
open Go.RowKit
structure St (w : World) (bl : List (Nat × Nat × Array Value)) (bg : List (Value × Nat)) (W : World) : Prop where
  own : ∀ x ∈ bl, OwnU W x.1 x.2.1 x.2.2
  big : ∀ x ∈ bg, IsBig W x.1 x.2
  ne : bl.Pairwise fun x y => x.1 ≠ y.1
  low : ∀ x ∈ bl, w.heap.size ≤ x.1
  below : Below w.heap.size w W
variable {w W V : World} {bl : List (Nat × Nat × Array Value)} {bg : List (Value × Nat)}
theorem St.nil (h : Below w.heap.size w W) : St w [] [] W := ⟨fun _ h => by (cases h), fun _ h => (by cases h), List.Pairwise.nil, fun _ h => by (cases h), h⟩
theorem St.later (h : St w bl bg W) (hb : Below W.heap.size W V) : St w bl bg V :=
  ⟨fun x hx => (h.own x hx).later hb, fun x hx => (h.big x hx).later hb, h.ne, h.low, h.below.trans (hb.mono h.below.size)⟩
theorem St.new (h : St w bl bg W) (vs : Array Value) (ty : Nat) : St w ((W.heap.size, ty, vs) :: bl) bg (W.alloc (.cells vs ty)) := by
  have t := h.later (albel W (.cells vs ty))
  refine ⟨fun x hx => ?_, t.big, List.Pairwise.cons (fun y hy => Nat.ne_of_gt (h.own y hy).lt) h.ne, fun x hx => ?_, t.below⟩
  · rcases List.mem_cons.1 hx with rfl | hx
    · exact OwnU.new _ _ _
    · exact t.own x hx
  · rcases List.mem_cons.1 hx with rfl | hx
    · exact h.below.size
    · exact h.low x hx
theorem St.push (h : St w bl bg W) {v : Value} {n : Nat} (hv : IsBig W v n) : St w bl ((v, n) :: bg) W :=
  ⟨h.own, fun x hx => by rcases List.mem_cons.1 hx with rfl | hx; · exact hv
                         · exact h.big x hx, h.ne, h.low, h.below⟩
theorem St.rot {x : Nat × Nat × Array Value} (h : St w (x :: bl) bg W) : St w (bl ++ [x]) bg W :=
  ⟨fun y hy => h.own y (by simp at hy ⊢; exact hy.symm), h.big, by
    have := List.pairwise_cons.1 h.ne
    exact List.pairwise_append.2 ⟨this.2, List.pairwise_singleton _ _, fun a ha b hb => by rw [List.mem_singleton.1 hb]; exact (this.1 a ha).symm⟩, fun y hy => h.low y (by simp at hy ⊢; exact hy.symm), h.below⟩
theorem St.tail {x : Nat × Nat × Array Value} (h : St w (x :: bl) bg W) : St w bl bg W :=
  ⟨fun y hy => h.own y (List.mem_cons_of_mem _ hy), h.big, (List.pairwise_cons.1 h.ne).2, fun y hy => h.low y (List.mem_cons_of_mem _ hy), h.below⟩
theorem St.sw {x y : Nat × Nat × Array Value} (h : St w (x :: y :: bl) bg W) : St w (y :: x :: bl) bg W := by
  have p := List.pairwise_cons.1 h.ne
  have q := List.pairwise_cons.1 p.2
  have m : ∀ z, z ∈ y :: x :: bl → z ∈ x :: y :: bl := fun z hz => by simp at hz ⊢; rcases hz with h | h | h <;> simp [h]
  refine ⟨fun z hz => h.own z (m z hz), h.big, List.Pairwise.cons ?_ (List.Pairwise.cons (fun z hz => p.1 z (List.mem_cons_of_mem _ hz)) q.2), fun z hz => h.low z (m z hz), h.below⟩
  intro z hz
  rcases List.mem_cons.1 hz with rfl | hz
  · exact (p.1 y List.mem_cons_self).symm
  · exact q.1 z hz
theorem St.first (h : St w bl bg W) (n : Nat) : St w bl (bg.take n) W := ⟨h.own, fun x hx => h.big x (List.mem_of_mem_take hx), h.ne, h.low, h.below⟩
theorem St.no3 {x y z : Value × Nat} {l : List (Value × Nat)} (h : St w bl (x :: y :: z :: l) W) : St w bl (x :: y :: l) W := ⟨h.own, fun a ha => h.big a (by simp at ha ⊢; rcases ha with h | h | h <;> simp [h]), h.ne, h.low, h.below⟩
theorem St.only (h : St w bl bg W) (bg' : List (Value × Nat)) (hs : ∀ x ∈ bg', x ∈ bg) : St w bl bg' W := ⟨h.own, fun x hx => h.big x (hs x hx), h.ne, h.low, h.below⟩
theorem St.set {g ty : Nat} {vs : Array Value} (h : St w ((g, ty, vs) :: bl) bg W) (hn : ∀ (i : Nat) x, vs[i]? = some x → ∀ k n, x ≠ .int k n) (us : Array Value) : St w ((g, ty, us) :: bl) bg (W.setRow g us) := by
  have ho := h.own _ List.mem_cons_self
  have hp := List.pairwise_cons.1 h.ne
  refine ⟨fun x hx => ?_, fun x hx => (h.big x hx).setRow ho hn us, List.Pairwise.cons hp.1 hp.2, fun x hx => ?_, below_setRow h.below (h.low _ List.mem_cons_self) _⟩
  · rcases List.mem_cons.1 hx with rfl | hx
    · exact ho.setRow us
    · exact (h.own x (List.mem_cons_of_mem _ hx)).other (Ne.symm (hp.1 x hx)) us
  · rcases List.mem_cons.1 hx with rfl | hx
    · exact h.low (g, ty, vs) List.mem_cons_self
    · exact h.low x (List.mem_cons_of_mem _ hx)
theorem St.at (h : St w bl bg W) (i : Nat) {g ty : Nat} {vs : Array Value} (e : bl[i]? = some (g, ty, vs)) : OwnU W g ty vs := h.own _ (List.mem_of_getElem? e)
theorem St.bgt (h : St w bl bg W) (i : Nat) {v : Value} {n : Nat} (e : bg[i]? = some (v, n)) : IsBig W v n := h.big _ (List.mem_of_getElem? e)
theorem St.one {g ty : Nat} {v : Value} (h : St w ((g, ty, #[v]) :: bl) bg W) (u : Value) : W.setCell ⟨g, 0, none⟩ u = W.setRow g #[u] := (h.own _ List.mem_cons_self).set1 u
end Go.Proofs.YtedohdcjichanaaGreatDoor

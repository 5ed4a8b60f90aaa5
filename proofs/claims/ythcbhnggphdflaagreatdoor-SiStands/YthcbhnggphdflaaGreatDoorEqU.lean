/- A unit held against itself. -/
import Derived.Test.YthcbhnggphdflaaGreatDoorFindS
import Derived.Great.BuildSlice
import Derived.Test.YthcbhnggphdflaaGreatDoorLimb2
import Derived.Test.YthcbhnggphdflaaGreatDoorUnit2
import Derived.ChangeKeysEq
import Derived.Laws.StructEq
namespace Go.Proofs.YthcbhnggphdflaaGreatDoor
open Go.RowKit
set_option maxRecDepth 100000 in
set_option maxHeartbeats 2000000 in
theorem refUnit (nm sy fn fd : ByteArray) (d0 d1 d2 d3 d4 d5 d6 d7 tk : Int) (w : World) : Calls Tryz.prog 26 #[.string nm, .string sy, .agg #[.int .i64 d0, .int .i64 d1, .int .i64 d2, .int .i64 d3, .int .i64 d4, .int .i64 d5, .int .i64 d6, .int .i64 d7], .string fn, .string fd, .int .i64 tk] w fun r w' => r = .returned (.agg #[.string nm, .string sy, .int .i64 d0, .int .i64 d1, .int .i64 d2, .int .i64 d3, .int .i64 d4, .int .i64 d5, .int .i64 d6, .int .i64 d7, .string fn, .string fd, .string ⟨#[48]⟩, .string ⟨#[49]⟩, .int .i64 tk]) ∧ Below w.heap.size w w' := by
  obtain ⟨V, hV⟩ : ∃ V, V = (w.alloc (.cells #[.int .i64 d0, .int .i64 d1, .int .i64 d2, .int .i64 d3, .int .i64 d4, .int .i64 d5, .int .i64 d6, .int .i64 d7] 26)).alloc (.cells z15 30) := ⟨_, rfl⟩
  have HB : Hid (Below w.heap.size w V) := by rw [hV]; exact ((Below.refl _ _).alloc (Nat.le_refl _) _).alloc (by simp) _
  have HA : Hid (OwnU V w.heap.size 26 #[.int .i64 d0, .int .i64 d1, .int .i64 d2, .int .i64 d3, .int .i64 d4, .int .i64 d5, .int .i64 d6, .int .i64 d7]) := by rw [hV]; exact (OwnU.new _ _ _).alloc _
  have HR : Hid (OwnU V (w.heap.size + 1) 30 z15) := by rw [hV]; have h := OwnU.new (w.alloc (.cells #[.int .i64 d0, .int .i64 d1, .int .i64 d2, .int .i64 d3, .int .i64 d4, .int .i64 d5, .int .i64 d6, .int .i64 d7] 26)) z15 30; rw [Dm.size_alloc] at h; exact h
  have HV := hide hV
  clear hV
  go_enter Tryz.func26, Tryz.ntmps26
  go_upto_region 1 with fail
  rw [← un HV]
  clear HV
  go_wp2_with (first
    | (refine wpList_load_row rfl 26 (.tmp 8) rfl w.heap.size rfl 26 #[.int .i64 d0, .int .i64 d1, .int .i64 d2, .int .i64 d3, .int .i64 d4, .int .i64 d5, .int .i64 d6, .int .i64 d7] (0, 0) _ (un HA) Tryz.underlying26 rfl (by kernel_rfl) ?_)
    | (refine storeT 30 15 info27 rfl (.tmp 12) (.tmp 21) rfl (w.heap.size + 1) z15 #[.string nm, .string sy, .int .i64 d0, .int .i64 d1, .int .i64 d2, .int .i64 d3, .int .i64 d4, .int .i64 d5, .int .i64 d6, .int .i64 d7, .string fn, .string fd, .string ⟨#[48]⟩, .string ⟨#[49]⟩, .int .i64 tk] rfl rfl rfl rfl (un HR) (by kernel_rfl) ?_))
  exact bodyPost_ret (v := .agg #[.string nm, .string sy, .int .i64 d0, .int .i64 d1, .int .i64 d2, .int .i64 d3, .int .i64 d4, .int .i64 d5, .int .i64 d6, .int .i64 d7, .string fn, .string fd, .string ⟨#[48]⟩, .string ⟨#[49]⟩, .int .i64 tk]) (res30 Tryz.results26 _ _ (w.heap.size + 1) _ rfl rfl ((un HR).setRow _)) rfl ⟨rfl, below_setRow (un HB) (by omega) _⟩
set_option maxRecDepth 100000 in
set_option maxHeartbeats 2000000 in
theorem refCoh (nm sy : ByteArray) (d0 d1 d2 d3 d4 d5 d6 d7 : Int) (w : World) : Calls Tryz.prog 25 #[.string nm, .string sy, .agg #[.int .i64 d0, .int .i64 d1, .int .i64 d2, .int .i64 d3, .int .i64 d4, .int .i64 d5, .int .i64 d6, .int .i64 d7]] w fun r w' => r = .returned (.agg #[.string nm, .string sy, .int .i64 d0, .int .i64 d1, .int .i64 d2, .int .i64 d3, .int .i64 d4, .int .i64 d5, .int .i64 d6, .int .i64 d7, .string ⟨#[49]⟩, .string ⟨#[49]⟩, .string ⟨#[48]⟩, .string ⟨#[49]⟩, .int .i64 1]) ∧ Below w.heap.size w w' := by
  obtain ⟨V, hV⟩ : ∃ V, V = (w.alloc (.cells #[.int .i64 d0, .int .i64 d1, .int .i64 d2, .int .i64 d3, .int .i64 d4, .int .i64 d5, .int .i64 d6, .int .i64 d7] 26)).alloc (.cells z15 30) := ⟨_, rfl⟩
  have HB : Hid (Below w.heap.size w V) := by rw [hV]; exact ((Below.refl _ _).alloc (Nat.le_refl _) _).alloc (by simp) _
  have HA : Hid (OwnU V w.heap.size 26 #[.int .i64 d0, .int .i64 d1, .int .i64 d2, .int .i64 d3, .int .i64 d4, .int .i64 d5, .int .i64 d6, .int .i64 d7]) := by rw [hV]; exact (OwnU.new _ _ _).alloc _
  have HR : Hid (OwnU V (w.heap.size + 1) 30 z15) := by rw [hV]; have h := OwnU.new (w.alloc (.cells #[.int .i64 d0, .int .i64 d1, .int .i64 d2, .int .i64 d3, .int .i64 d4, .int .i64 d5, .int .i64 d6, .int .i64 d7] 26)) z15 30; rw [Dm.size_alloc] at h; exact h
  have HV := hide hV
  clear hV
  go_enter Tryz.func25, Tryz.ntmps25
  go_upto_region 1 with fail
  rw [← un HV]
  clear HV
  go_wp2_with (first
    | (refine wpList_load_row rfl 26 (.tmp 5) rfl w.heap.size rfl 26 #[.int .i64 d0, .int .i64 d1, .int .i64 d2, .int .i64 d3, .int .i64 d4, .int .i64 d5, .int .i64 d6, .int .i64 d7] (0, 0) _ (un HA) Tryz.underlying26 rfl (by kernel_rfl) ?_)
    | (go_at_call 26; go_must (refine (refUnit _ _ _ _ _ _ _ _ _ _ _ _ _ _).mono ?_; rintro e w1 ⟨rfl, hb⟩; have HR1 := hide ((un HR).later hb); have HB1 : Hid (Below w.heap.size w w1) := (un HB).trans (hb.mono (un HB).size); clear hb))
    | (refine storeT 30 15 info27 rfl (.tmp 6) (.tmp 10) rfl (w.heap.size + 1) z15 #[.string nm, .string sy, .int .i64 d0, .int .i64 d1, .int .i64 d2, .int .i64 d3, .int .i64 d4, .int .i64 d5, .int .i64 d6, .int .i64 d7, .string ⟨#[49]⟩, .string ⟨#[49]⟩, .string ⟨#[48]⟩, .string ⟨#[49]⟩, .int .i64 1] rfl rfl rfl rfl (un HR1) (by kernel_rfl) ?_))
  exact bodyPost_ret (v := .agg #[.string nm, .string sy, .int .i64 d0, .int .i64 d1, .int .i64 d2, .int .i64 d3, .int .i64 d4, .int .i64 d5, .int .i64 d6, .int .i64 d7, .string ⟨#[49]⟩, .string ⟨#[49]⟩, .string ⟨#[48]⟩, .string ⟨#[49]⟩, .int .i64 1]) (res30 Tryz.results25 _ _ (w.heap.size + 1) _ rfl rfl ((un HR1).setRow _)) rfl ⟨rfl, below_setRow (un HB1) (by omega) _⟩
def uAllS : Array Value := #[.string ⟨#[110, 101, 119, 116, 111, 110]⟩, .string ⟨#[78]⟩, .int .i64 1, .int .i64 1, .int .i64 (-2), .int .i64 0, .int .i64 0, .int .i64 0, .int .i64 0, .int .i64 0, .string ⟨#[49]⟩, .string ⟨#[49]⟩, .string ⟨#[48]⟩, .string ⟨#[49]⟩, .int .i64 1, .string ⟨#[112, 97, 115, 99, 97, 108]⟩, .string ⟨#[80, 97]⟩, .int .i64 (-1), .int .i64 1, .int .i64 (-2), .int .i64 0, .int .i64 0, .int .i64 0, .int .i64 0, .int .i64 0, .string ⟨#[49]⟩, .string ⟨#[49]⟩, .string ⟨#[48]⟩, .string ⟨#[49]⟩, .int .i64 1, .string ⟨#[106, 111, 117, 108, 101]⟩, .string ⟨#[74]⟩, .int .i64 2, .int .i64 1, .int .i64 (-2), .int .i64 0, .int .i64 0, .int .i64 0, .int .i64 0, .int .i64 0, .string ⟨#[49]⟩, .string ⟨#[49]⟩, .string ⟨#[48]⟩, .string ⟨#[49]⟩, .int .i64 1, .string ⟨#[119, 97, 116, 116]⟩, .string ⟨#[87]⟩, .int .i64 2, .int .i64 1, .int .i64 (-3), .int .i64 0, .int .i64 0, .int .i64 0, .int .i64 0, .int .i64 0, .string ⟨#[49]⟩, .string ⟨#[49]⟩, .string ⟨#[48]⟩, .string ⟨#[49]⟩, .int .i64 1, .string ⟨#[99, 111, 117, 108, 111, 109, 98]⟩, .string ⟨#[67]⟩, .int .i64 0, .int .i64 0, .int .i64 1, .int .i64 1, .int .i64 0, .int .i64 0, .int .i64 0, .int .i64 0, .string ⟨#[49]⟩, .string ⟨#[49]⟩, .string ⟨#[48]⟩, .string ⟨#[49]⟩, .int .i64 1, .string ⟨#[118, 111, 108, 116]⟩, .string ⟨#[86]⟩, .int .i64 2, .int .i64 1, .int .i64 (-3), .int .i64 (-1), .int .i64 0, .int .i64 0, .int .i64 0, .int .i64 0, .string ⟨#[49]⟩, .string ⟨#[49]⟩, .string ⟨#[48]⟩, .string ⟨#[49]⟩, .int .i64 1, .string ⟨#[102, 97, 114, 97, 100]⟩, .string ⟨#[70]⟩, .int .i64 (-2), .int .i64 (-1), .int .i64 4, .int .i64 2, .int .i64 0, .int .i64 0, .int .i64 0, .int .i64 0, .string ⟨#[49]⟩, .string ⟨#[49]⟩, .string ⟨#[48]⟩, .string ⟨#[49]⟩, .int .i64 1, .string ⟨#[111, 104, 109]⟩, .string ⟨#[206, 169]⟩, .int .i64 2, .int .i64 1, .int .i64 (-3), .int .i64 (-2), .int .i64 0, .int .i64 0, .int .i64 0, .int .i64 0, .string ⟨#[49]⟩, .string ⟨#[49]⟩, .string ⟨#[48]⟩, .string ⟨#[49]⟩, .int .i64 1, .string ⟨#[115, 105, 101, 109, 101, 110, 115]⟩, .string ⟨#[83]⟩, .int .i64 (-2), .int .i64 (-1), .int .i64 3, .int .i64 2, .int .i64 0, .int .i64 0, .int .i64 0, .int .i64 0, .string ⟨#[49]⟩, .string ⟨#[49]⟩, .string ⟨#[48]⟩, .string ⟨#[49]⟩, .int .i64 1, .string ⟨#[119, 101, 98, 101, 114]⟩, .string ⟨#[87, 98]⟩, .int .i64 2, .int .i64 1, .int .i64 (-2), .int .i64 (-1), .int .i64 0, .int .i64 0, .int .i64 0, .int .i64 0, .string ⟨#[49]⟩, .string ⟨#[49]⟩, .string ⟨#[48]⟩, .string ⟨#[49]⟩, .int .i64 1, .string ⟨#[116, 101, 115, 108, 97]⟩, .string ⟨#[84]⟩, .int .i64 0, .int .i64 1, .int .i64 (-2), .int .i64 (-1), .int .i64 0, .int .i64 0, .int .i64 0, .int .i64 0, .string ⟨#[49]⟩, .string ⟨#[49]⟩, .string ⟨#[48]⟩, .string ⟨#[49]⟩, .int .i64 1, .string ⟨#[104, 101, 110, 114, 121]⟩, .string ⟨#[72]⟩, .int .i64 2, .int .i64 1, .int .i64 (-2), .int .i64 (-2), .int .i64 0, .int .i64 0, .int .i64 0, .int .i64 0, .string ⟨#[49]⟩, .string ⟨#[49]⟩, .string ⟨#[48]⟩, .string ⟨#[49]⟩, .int .i64 1, .string ⟨#[104, 101, 114, 116, 122]⟩, .string ⟨#[72, 122]⟩, .int .i64 0, .int .i64 0, .int .i64 (-1), .int .i64 0, .int .i64 0, .int .i64 0, .int .i64 0, .int .i64 0, .string ⟨#[49]⟩, .string ⟨#[49]⟩, .string ⟨#[48]⟩, .string ⟨#[49]⟩, .int .i64 1, .string ⟨#[98, 101, 99, 113, 117, 101, 114, 101, 108]⟩, .string ⟨#[66, 113]⟩, .int .i64 0, .int .i64 0, .int .i64 (-1), .int .i64 0, .int .i64 0, .int .i64 0, .int .i64 0, .int .i64 0, .string ⟨#[49]⟩, .string ⟨#[49]⟩, .string ⟨#[48]⟩, .string ⟨#[49]⟩, .int .i64 1, .string ⟨#[103, 114, 97, 121]⟩, .string ⟨#[71, 121]⟩, .int .i64 2, .int .i64 0, .int .i64 (-2), .int .i64 0, .int .i64 0, .int .i64 0, .int .i64 0, .int .i64 0, .string ⟨#[49]⟩, .string ⟨#[49]⟩, .string ⟨#[48]⟩, .string ⟨#[49]⟩, .int .i64 1, .string ⟨#[115, 105, 101, 118, 101, 114, 116]⟩, .string ⟨#[83, 118]⟩, .int .i64 2, .int .i64 0, .int .i64 (-2), .int .i64 0, .int .i64 0, .int .i64 0, .int .i64 0, .int .i64 0, .string ⟨#[49]⟩, .string ⟨#[49]⟩, .string ⟨#[48]⟩, .string ⟨#[49]⟩, .int .i64 1, .string ⟨#[107, 97, 116, 97, 108]⟩, .string ⟨#[107, 97, 116]⟩, .int .i64 0, .int .i64 0, .int .i64 (-1), .int .i64 0, .int .i64 0, .int .i64 1, .int .i64 0, .int .i64 0, .string ⟨#[49]⟩, .string ⟨#[49]⟩, .string ⟨#[48]⟩, .string ⟨#[49]⟩, .int .i64 1, .string ⟨#[114, 97, 100, 105, 97, 110]⟩, .string ⟨#[114, 97, 100]⟩, .int .i64 0, .int .i64 0, .int .i64 0, .int .i64 0, .int .i64 0, .int .i64 0, .int .i64 0, .int .i64 0, .string ⟨#[49]⟩, .string ⟨#[49]⟩, .string ⟨#[48]⟩, .string ⟨#[49]⟩, .int .i64 1, .string ⟨#[115, 116, 101, 114, 97, 100, 105, 97, 110]⟩, .string ⟨#[115, 114]⟩, .int .i64 0, .int .i64 0, .int .i64 0, .int .i64 0, .int .i64 0, .int .i64 0, .int .i64 0, .int .i64 0, .string ⟨#[49]⟩, .string ⟨#[49]⟩, .string ⟨#[48]⟩, .string ⟨#[49]⟩, .int .i64 1, .string ⟨#[108, 117, 109, 101, 110]⟩, .string ⟨#[108, 109]⟩, .int .i64 0, .int .i64 0, .int .i64 0, .int .i64 0, .int .i64 0, .int .i64 0, .int .i64 1, .int .i64 0, .string ⟨#[49]⟩, .string ⟨#[49]⟩, .string ⟨#[48]⟩, .string ⟨#[49]⟩, .int .i64 1, .string ⟨#[108, 117, 120]⟩, .string ⟨#[108, 120]⟩, .int .i64 (-2), .int .i64 0, .int .i64 0, .int .i64 0, .int .i64 0, .int .i64 0, .int .i64 1, .int .i64 0, .string ⟨#[49]⟩, .string ⟨#[49]⟩, .string ⟨#[48]⟩, .string ⟨#[49]⟩, .int .i64 1, .string ⟨#[109, 105, 110, 117, 116, 101]⟩, .string ⟨#[109, 105, 110]⟩, .int .i64 0, .int .i64 0, .int .i64 1, .int .i64 0, .int .i64 0, .int .i64 0, .int .i64 0, .int .i64 0, .string ⟨#[54, 48]⟩, .string ⟨#[49]⟩, .string ⟨#[48]⟩, .string ⟨#[49]⟩, .int .i64 0, .string ⟨#[104, 111, 117, 114]⟩, .string ⟨#[104]⟩, .int .i64 0, .int .i64 0, .int .i64 1, .int .i64 0, .int .i64 0, .int .i64 0, .int .i64 0, .int .i64 0, .string ⟨#[51, 54, 48, 48]⟩, .string ⟨#[49]⟩, .string ⟨#[48]⟩, .string ⟨#[49]⟩, .int .i64 0, .string ⟨#[100, 97, 121]⟩, .string ⟨#[100]⟩, .int .i64 0, .int .i64 0, .int .i64 1, .int .i64 0, .int .i64 0, .int .i64 0, .int .i64 0, .int .i64 0, .string ⟨#[56, 54, 52, 48, 48]⟩, .string ⟨#[49]⟩, .string ⟨#[48]⟩, .string ⟨#[49]⟩, .int .i64 0, .string ⟨#[108, 105, 116, 114, 101]⟩, .string ⟨#[76]⟩, .int .i64 3, .int .i64 0, .int .i64 0, .int .i64 0, .int .i64 0, .int .i64 0, .int .i64 0, .int .i64 0, .string ⟨#[49]⟩, .string ⟨#[49, 48, 48, 48]⟩, .string ⟨#[48]⟩, .string ⟨#[49]⟩, .int .i64 1, .string ⟨#[116, 111, 110, 110, 101]⟩, .string ⟨#[116]⟩, .int .i64 0, .int .i64 1, .int .i64 0, .int .i64 0, .int .i64 0, .int .i64 0, .int .i64 0, .int .i64 0, .string ⟨#[49, 48, 48, 48]⟩, .string ⟨#[49]⟩, .string ⟨#[48]⟩, .string ⟨#[49]⟩, .int .i64 1, .string ⟨#[98, 97, 114]⟩, .string ⟨#[98, 97, 114]⟩, .int .i64 (-1), .int .i64 1, .int .i64 (-2), .int .i64 0, .int .i64 0, .int .i64 0, .int .i64 0, .int .i64 0, .string ⟨#[49, 48, 48, 48, 48, 48]⟩, .string ⟨#[49]⟩, .string ⟨#[48]⟩, .string ⟨#[49]⟩, .int .i64 1, .string ⟨#[104, 101, 99, 116, 97, 114, 101]⟩, .string ⟨#[104, 97]⟩, .int .i64 2, .int .i64 0, .int .i64 0, .int .i64 0, .int .i64 0, .int .i64 0, .int .i64 0, .int .i64 0, .string ⟨#[49, 48, 48, 48, 48]⟩, .string ⟨#[49]⟩, .string ⟨#[48]⟩, .string ⟨#[49]⟩, .int .i64 0, .string ⟨#[98, 121, 116, 101]⟩, .string ⟨#[66]⟩, .int .i64 0, .int .i64 0, .int .i64 0, .int .i64 0, .int .i64 0, .int .i64 0, .int .i64 0, .int .i64 1, .string ⟨#[56]⟩, .string ⟨#[49]⟩, .string ⟨#[48]⟩, .string ⟨#[49]⟩, .int .i64 3]
theorem info30r : (Tryz.prog.info? 30).map (fun i => (i.zero, i.size, i.bytes)) = some (some (.agg z15), 15, 168) := by kernel_rfl
theorem under22r : Tryz.prog.underlying 22 = some (.slice 30) := by kernel_rfl
set_option maxRecDepth 100000 in
set_option maxHeartbeats 8000000 in
theorem refUnitsS (w : World) : Calls Tryz.prog 10 #[] w fun r w' => ∃ W, r = .returned (.slice (some ⟨W.heap.size, 0, none⟩) 29 29) ∧ w' = W.alloc (.cells uAllS 30) ∧ Below w.heap.size w W := by
  obtain ⟨i0, hi, hz0, hz1, hz2⟩ := info_parts info30r
  have HI0 := hide hi; have HZ0 := hide hz0; have HZ1 := hide hz1
  have HB : Hid (Below w.heap.size w w) := Below.refl _ _
  clear hi hz0 hz1 hz2
  go_enter Tryz.func10, Tryz.ntmps10
  go_wp2_with (first
    | (go_at_call 25; go_must (refine (refCoh _ _ _ _ _ _ _ _ _ _ _).mono ?_; rintro e W1 ⟨rfl, hb⟩; have HBn : Hid (Below w.heap.size w W1) := (un HB).trans (hb.mono (un HB).size); clear hb HB; have HB := HBn; clear HBn))
    | (go_at_call 26; go_must (refine (refUnit _ _ _ _ _ _ _ _ _ _ _ _ _ _).mono ?_; rintro e W1 ⟨rfl, hb⟩; have HBn : Hid (Below w.heap.size w W1) := (un HB).trans (hb.mono (un HB).size); clear hb HB; have HB := HBn; clear HBn))
    | (refine wpList_buildSlice rfl 22 30 29 _ rfl uAllS i0 (.agg z15) under22r (un HI0) (un HZ0) (by rw [un HZ1]; decide) (by rw [un HZ1]; decide) (by rw [un HZ1]; kernel_rfl) ?_))
  go_ret
  exact ⟨W1, rfl, rfl, un HB⟩
end Go.Proofs.YthcbhnggphdflaaGreatDoor

namespace Go.Proofs.YthcbhnggphdflaaGreatDoor
open Go.RowKit
theorem uAllS_ex : ∀ k, k < 29 → uAllS.extract (k * 15) (k * 15 + 15) = ruT k
  | 0, _ => by kernel_rfl
  | 1, _ => by kernel_rfl
  | 2, _ => by kernel_rfl
  | 3, _ => by kernel_rfl
  | 4, _ => by kernel_rfl
  | 5, _ => by kernel_rfl
  | 6, _ => by kernel_rfl
  | 7, _ => by kernel_rfl
  | 8, _ => by kernel_rfl
  | 9, _ => by kernel_rfl
  | 10, _ => by kernel_rfl
  | 11, _ => by kernel_rfl
  | 12, _ => by kernel_rfl
  | 13, _ => by kernel_rfl
  | 14, _ => by kernel_rfl
  | 15, _ => by kernel_rfl
  | 16, _ => by kernel_rfl
  | 17, _ => by kernel_rfl
  | 18, _ => by kernel_rfl
  | 19, _ => by kernel_rfl
  | 20, _ => by kernel_rfl
  | 21, _ => by kernel_rfl
  | 22, _ => by kernel_rfl
  | 23, _ => by kernel_rfl
  | 24, _ => by kernel_rfl
  | 25, _ => by kernel_rfl
  | 26, _ => by kernel_rfl
  | 27, _ => by kernel_rfl
  | 28, _ => by kernel_rfl
  | _ + 29, h => absurd h (by omega)
theorem uAllS_size : uAllS.size = 435 := by kernel_rfl
theorem uAllS_row (k : Nat) (hk : k < 29) (i : Nat) (v : Value) (h : (ruT k)[i]? = some v) : uAllS[k * 15 + i]? = some v := by
  have hi : i < 15 := by have := (Array.getElem?_eq_some_iff.1 h).1; rw [ruT_size] at this; exact this
  rw [← uAllS_ex k hk, Array.getElem?_extract, if_pos (by rw [uAllS_size]; omega)] at h
  exact h
def UR (W : World) (g k : Nat) : Prop := ∀ i v, (ruT k)[i]? = some v → W.cell? ⟨g, k * 15 + i, none⟩ = some v
theorem UR.later {W V : World} {B g k : Nat} (h : UR W g k) (hb : Below B W V) (hg : g < B) : UR V g k := fun i v e => (hb.cell (p := ⟨g, k * 15 + i, none⟩) hg).trans (h i v e)
theorem uAllS_at (W : World) (k : Nat) (hk : k < 29) : UR (W.alloc (.cells uAllS 30)) W.heap.size k := fun i v e => (OwnU.new W uAllS 30).ub.c _ _ (uAllS_row k hk i v e)
end Go.Proofs.YthcbhnggphdflaaGreatDoor

namespace Go.Proofs.YthcbhnggphdflaaGreatDoor
open Go.RowKit
theorem info3U : ∃ i, Tryz.prog.info? 3 = some i := Option.isSome_iff_exists.1 (by kernel_rfl)
theorem cells3U : Tryz.prog.cellsOf 3 = 1 := by kernel_rfl
section
variable (nm sy : ByteArray) (d0 d1 d2 d3 d4 d5 d6 d7 : Int) (fn fd on od : ByteArray) (tk : Int)
theorem eqD (d : Nat) (w : World) : (Op.equalIn (d + 2) 26 (.agg #[I d0, I d1, I d2, I d3, I d4, I d5, I d6, I d7]) (.agg #[I d0, I d1, I d2, I d3, I d4, I d5, I d6, I d7])).run Tryz.prog w = .ok true w := by
 obtain ⟨inf, hinf⟩ := info3U
 rw [show d + 2 = (d + 1) + 1 from rfl, run_equalIn_array w (d + 1) _ _ Tryz.underlying26 hinf, cells3U, show List.range 8 = [0, 1, 2, 3, 4, 5, 6, 7] from rfl]
 have p0 : ∀ w : World, (part 3 #[I d0, I d1, I d2, I d3, I d4, I d5, I d6, I d7] (0 * 1)).run Tryz.prog w = .ok (I d0) w := fun _ => by kernel_rfl
 have p1 : ∀ w : World, (part 3 #[I d0, I d1, I d2, I d3, I d4, I d5, I d6, I d7] (1 * 1)).run Tryz.prog w = .ok (I d1) w := fun _ => by kernel_rfl
 have p2 : ∀ w : World, (part 3 #[I d0, I d1, I d2, I d3, I d4, I d5, I d6, I d7] (2 * 1)).run Tryz.prog w = .ok (I d2) w := fun _ => by kernel_rfl
 have p3 : ∀ w : World, (part 3 #[I d0, I d1, I d2, I d3, I d4, I d5, I d6, I d7] (3 * 1)).run Tryz.prog w = .ok (I d3) w := fun _ => by kernel_rfl
 have p4 : ∀ w : World, (part 3 #[I d0, I d1, I d2, I d3, I d4, I d5, I d6, I d7] (4 * 1)).run Tryz.prog w = .ok (I d4) w := fun _ => by kernel_rfl
 have p5 : ∀ w : World, (part 3 #[I d0, I d1, I d2, I d3, I d4, I d5, I d6, I d7] (5 * 1)).run Tryz.prog w = .ok (I d5) w := fun _ => by kernel_rfl
 have p6 : ∀ w : World, (part 3 #[I d0, I d1, I d2, I d3, I d4, I d5, I d6, I d7] (6 * 1)).run Tryz.prog w = .ok (I d6) w := fun _ => by kernel_rfl
 have p7 : ∀ w : World, (part 3 #[I d0, I d1, I d2, I d3, I d4, I d5, I d6, I d7] (7 * 1)).run Tryz.prog w = .ok (I d7) w := fun _ => by kernel_rfl
 have e := fun w a b => run_equalIn_int (P := Tryz.prog) w d 3 .i64 .i64 a b Tryz.underlying3
 simp only [Op.eqItems, Sem.run_bind, p0, p1, p2, p3, p4, p5, p6, p7, Result.andThen_ok, e, Sem.run_ite, Sem.run_pure]
 simp
theorem fieldsQ : ∃ f0 f1, (Tryz.prog.fieldsOf 28).toList = [f0, f1] ∧ f0.type = 9 ∧ f0.offset = 0 ∧ f0.name ≠ "_" ∧ f1.type = 9 ∧ f1.offset = 1 ∧ f1.name ≠ "_" := by
 unfold Program.fieldsOf
 rw [Tryz.underlying28]
 exact ⟨_, _, rfl, rfl, rfl, by decide +kernel, rfl, rfl, by decide +kernel⟩
theorem eqQ (d : Nat) (w : World) : (Op.equalIn (d + 2) 28 (.agg #[.string fn, .string fd]) (.agg #[.string fn, .string fd])).run Tryz.prog w = .ok true w := by
 rw [show d + 2 = (d + 1) + 1 from rfl, run_equalIn_struct w (d + 1) 28 _ _ (by kernel_rfl) (by kernel_rfl)]
 obtain ⟨f0, f1, hf, t0, o0, n0, t1, o1, n1⟩ := fieldsQ
 rw [hf]
 have p0 : ∀ w : World, (part 9 #[.string fn, .string fd] 0).run Tryz.prog w = .ok (.string fn) w := fun _ => by kernel_rfl
 have p1 : ∀ w : World, (part 9 #[.string fn, .string fd] 1).run Tryz.prog w = .ok (.string fd) w := fun _ => by kernel_rfl
 have e := fun w a b => run_equalIn_string (P := Tryz.prog) w d 9 a b Tryz.underlying9
 simp only [Op.eqFields, n0, n1, t0, t1, o0, o1, Sem.run_bind, p0, p1, Result.andThen_ok, e, Sem.run_ite, Sem.run_pure, ne_eq, not_false_eq_true, if_true]
 simp
theorem fieldsU : ∃ f0 f1 f2 f3 f4 f5, (Tryz.prog.fieldsOf 30).toList = [f0, f1, f2, f3, f4, f5] ∧ (f0.type = 9 ∧ f0.offset = 0 ∧ f0.name ≠ "_") ∧ (f1.type = 9 ∧ f1.offset = 1 ∧ f1.name ≠ "_") ∧ (f2.type = 26 ∧ f2.offset = 2 ∧ f2.name ≠ "_") ∧ (f3.type = 28 ∧ f3.offset = 10 ∧ f3.name ≠ "_") ∧ (f4.type = 28 ∧ f4.offset = 12 ∧ f4.name ≠ "_") ∧ (f5.type = 3 ∧ f5.offset = 14 ∧ f5.name ≠ "_") := by
 unfold Program.fieldsOf
 rw [Tryz.underlying30]
 exact ⟨_, _, _, _, _, _, rfl, ⟨rfl, rfl, by decide +kernel⟩, ⟨rfl, rfl, by decide +kernel⟩, ⟨rfl, rfl, by decide +kernel⟩, ⟨rfl, rfl, by decide +kernel⟩, ⟨rfl, rfl, by decide +kernel⟩, ⟨rfl, rfl, by decide +kernel⟩⟩
theorem eqU (w : World) : (Op.equalIn 10000 30 (.agg #[.string nm, .string sy, I d0, I d1, I d2, I d3, I d4, I d5, I d6, I d7, .string fn, .string fd, .string on, .string od, I tk]) (.agg #[.string nm, .string sy, I d0, I d1, I d2, I d3, I d4, I d5, I d6, I d7, .string fn, .string fd, .string on, .string od, I tk])).run Tryz.prog w = .ok true w := by
 rw [show (10000 : Nat) = 9999 + 1 from rfl, run_equalIn_struct w 9999 30 _ _ (by kernel_rfl) (by kernel_rfl)]
 obtain ⟨f0, f1, f2, f3, f4, f5, hf, ⟨t0, o0, n0⟩, ⟨t1, o1, n1⟩, ⟨t2, o2, n2⟩, ⟨t3, o3, n3⟩, ⟨t4, o4, n4⟩, ⟨t5, o5, n5⟩⟩ := fieldsU
 rw [hf]
 have p0 : ∀ w : World, (part 9 #[.string nm, .string sy, I d0, I d1, I d2, I d3, I d4, I d5, I d6, I d7, .string fn, .string fd, .string on, .string od, I tk] 0).run Tryz.prog w = .ok (.string nm) w := fun _ => by kernel_rfl
 have p1 : ∀ w : World, (part 9 #[.string nm, .string sy, I d0, I d1, I d2, I d3, I d4, I d5, I d6, I d7, .string fn, .string fd, .string on, .string od, I tk] 1).run Tryz.prog w = .ok (.string sy) w := fun _ => by kernel_rfl
 have p2 : ∀ w : World, (part 26 #[.string nm, .string sy, I d0, I d1, I d2, I d3, I d4, I d5, I d6, I d7, .string fn, .string fd, .string on, .string od, I tk] 2).run Tryz.prog w = .ok (.agg #[I d0, I d1, I d2, I d3, I d4, I d5, I d6, I d7]) w := fun _ => by kernel_rfl
 have p3 : ∀ w : World, (part 28 #[.string nm, .string sy, I d0, I d1, I d2, I d3, I d4, I d5, I d6, I d7, .string fn, .string fd, .string on, .string od, I tk] 10).run Tryz.prog w = .ok (.agg #[.string fn, .string fd]) w := fun _ => by kernel_rfl
 have p4 : ∀ w : World, (part 28 #[.string nm, .string sy, I d0, I d1, I d2, I d3, I d4, I d5, I d6, I d7, .string fn, .string fd, .string on, .string od, I tk] 12).run Tryz.prog w = .ok (.agg #[.string on, .string od]) w := fun _ => by kernel_rfl
 have p5 : ∀ w : World, (part 3 #[.string nm, .string sy, I d0, I d1, I d2, I d3, I d4, I d5, I d6, I d7, .string fn, .string fd, .string on, .string od, I tk] 14).run Tryz.prog w = .ok (I tk) w := fun _ => by kernel_rfl
 have e := fun w a b => run_equalIn_string (P := Tryz.prog) w 9998 9 a b Tryz.underlying9
 have e3 := fun w a b => run_equalIn_int (P := Tryz.prog) w 9998 3 .i64 .i64 a b Tryz.underlying3
 have ed := eqD d0 d1 d2 d3 d4 d5 d6 d7 9997
 have eq1 := eqQ fn fd 9997
 have eq2 := eqQ on od 9997
 simp only [Op.eqFields, n0, n1, n2, n3, n4, n5, t0, t1, t2, t3, t4, t5, o0, o1, o2, o3, o4, o5, Sem.run_bind, p0, p1, p2, p3, p4, p5, Result.andThen_ok, e, e3, ed, eq1, eq2, Sem.run_ite, Sem.run_pure, ne_eq, not_false_eq_true, if_true]
 simp
end
end Go.Proofs.YthcbhnggphdflaaGreatDoor

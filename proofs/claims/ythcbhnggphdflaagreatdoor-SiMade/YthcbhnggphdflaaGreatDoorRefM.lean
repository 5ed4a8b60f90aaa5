/- The document's Made (14). -/
import Derived.Test.YthcbhnggphdflaaGreatDoorFindS
import Derived.Great.BuildSlice
import Derived.Test.YthcbhnggphdflaaGreatDoorMadeS
namespace Go.Proofs.YthcbhnggphdflaaGreatDoor
open Go.RowKit
set_option maxRecDepth 100000 in
set_option maxHeartbeats 2000000 in
theorem refUnit (nm sy fn fd : ByteArray) (d0 d1 d2 d3 d4 d5 d6 d7 tk : Int) (w : World) : Calls Tryz.prog 26 #[.string nm, .string sy, .agg #[.int .i64 d0, .int .i64 d1, .int .i64 d2, .int .i64 d3, .int .i64 d4, .int .i64 d5, .int .i64 d6, .int .i64 d7], .string fn, .string fd, .int .i64 tk] w fun r w' => r = .returned (.agg #[.string nm, .string sy, .int .i64 d0, .int .i64 d1, .int .i64 d2, .int .i64 d3, .int .i64 d4, .int .i64 d5, .int .i64 d6, .int .i64 d7, .string fn, .string fd, .string ⟨#[48]⟩, .string ⟨#[49]⟩, .int .i64 tk]) ∧ Below w.heap.size w w' := by
  obtain ⟨V, hV⟩ : ∃ V, V = (w.alloc (.cells #[.int .i64 d0, .int .i64 d1, .int .i64 d2, .int .i64 d3, .int .i64 d4, .int .i64 d5, .int .i64 d6, .int .i64 d7] 26)).alloc (.cells z15 30) := ⟨_, rfl⟩
  have HB : Hid (Below w.heap.size w V) := by rw [hV]; exact ((Below.refl _ _).alloc (Nat.le_refl _) _).alloc (by simp) _
  have HA : Hid (OwnU V w.heap.size 26 #[.int .i64 d0, .int .i64 d1, .int .i64 d2, .int .i64 d3, .int .i64 d4, .int .i64 d5, .int .i64 d6, .int .i64 d7]) := by rw [hV]; exact (OwnU.new _ _ _).alloc _
  have HR : Hid (OwnU V (w.heap.size + 1) 30 z15) := by rw [hV]; have h := OwnU.new (w.alloc (.cells #[.int .i64 d0, .int .i64 d1, .int .i64 d2, .int .i64 d3, .int .i64 d4, .int .i64 d5, .int .i64 d6, .int .i64 d7] 26)) z15 30; rw [Dm.size_alloc] at h; exact h
  have HV := hide hV
  clear hV
  go_enter Tryz.func26, Tryz.ntmps26
  go_upto_region 1 with fail
  rw [← un HV]
  clear HV
  go_wp2_with (first
    | (refine wpList_load_row rfl 26 (.tmp 8) rfl w.heap.size rfl 26 #[.int .i64 d0, .int .i64 d1, .int .i64 d2, .int .i64 d3, .int .i64 d4, .int .i64 d5, .int .i64 d6, .int .i64 d7] (0, 0) _ (un HA) Tryz.underlying26 rfl (by kernel_rfl) ?_)
    | (refine storeT 30 15 info27 rfl (.tmp 12) (.tmp 21) rfl (w.heap.size + 1) z15 #[.string nm, .string sy, .int .i64 d0, .int .i64 d1, .int .i64 d2, .int .i64 d3, .int .i64 d4, .int .i64 d5, .int .i64 d6, .int .i64 d7, .string fn, .string fd, .string ⟨#[48]⟩, .string ⟨#[49]⟩, .int .i64 tk] rfl rfl rfl rfl (un HR) (by kernel_rfl) ?_))
  exact bodyPost_ret (v := .agg #[.string nm, .string sy, .int .i64 d0, .int .i64 d1, .int .i64 d2, .int .i64 d3, .int .i64 d4, .int .i64 d5, .int .i64 d6, .int .i64 d7, .string fn, .string fd, .string ⟨#[48]⟩, .string ⟨#[49]⟩, .int .i64 tk]) (res30 Tryz.results26 _ _ (w.heap.size + 1) _ rfl rfl ((un HR).setRow _)) rfl ⟨rfl, below_setRow (un HB) (by omega) _⟩
set_option maxRecDepth 100000 in
set_option maxHeartbeats 2000000 in
theorem refCoh (nm sy : ByteArray) (d0 d1 d2 d3 d4 d5 d6 d7 : Int) (w : World) : Calls Tryz.prog 25 #[.string nm, .string sy, .agg #[.int .i64 d0, .int .i64 d1, .int .i64 d2, .int .i64 d3, .int .i64 d4, .int .i64 d5, .int .i64 d6, .int .i64 d7]] w fun r w' => r = .returned (.agg #[.string nm, .string sy, .int .i64 d0, .int .i64 d1, .int .i64 d2, .int .i64 d3, .int .i64 d4, .int .i64 d5, .int .i64 d6, .int .i64 d7, .string ⟨#[49]⟩, .string ⟨#[49]⟩, .string ⟨#[48]⟩, .string ⟨#[49]⟩, .int .i64 1]) ∧ Below w.heap.size w w' := by
  obtain ⟨V, hV⟩ : ∃ V, V = (w.alloc (.cells #[.int .i64 d0, .int .i64 d1, .int .i64 d2, .int .i64 d3, .int .i64 d4, .int .i64 d5, .int .i64 d6, .int .i64 d7] 26)).alloc (.cells z15 30) := ⟨_, rfl⟩
  have HB : Hid (Below w.heap.size w V) := by rw [hV]; exact ((Below.refl _ _).alloc (Nat.le_refl _) _).alloc (by simp) _
  have HA : Hid (OwnU V w.heap.size 26 #[.int .i64 d0, .int .i64 d1, .int .i64 d2, .int .i64 d3, .int .i64 d4, .int .i64 d5, .int .i64 d6, .int .i64 d7]) := by rw [hV]; exact (OwnU.new _ _ _).alloc _
  have HR : Hid (OwnU V (w.heap.size + 1) 30 z15) := by rw [hV]; have h := OwnU.new (w.alloc (.cells #[.int .i64 d0, .int .i64 d1, .int .i64 d2, .int .i64 d3, .int .i64 d4, .int .i64 d5, .int .i64 d6, .int .i64 d7] 26)) z15 30; rw [Dm.size_alloc] at h; exact h
  have HV := hide hV
  clear hV
  go_enter Tryz.func25, Tryz.ntmps25
  go_upto_region 1 with fail
  rw [← un HV]
  clear HV
  go_wp2_with (first
    | (refine wpList_load_row rfl 26 (.tmp 5) rfl w.heap.size rfl 26 #[.int .i64 d0, .int .i64 d1, .int .i64 d2, .int .i64 d3, .int .i64 d4, .int .i64 d5, .int .i64 d6, .int .i64 d7] (0, 0) _ (un HA) Tryz.underlying26 rfl (by kernel_rfl) ?_)
    | (go_at_call 26; go_must (refine (refUnit _ _ _ _ _ _ _ _ _ _ _ _ _ _).mono ?_; rintro e w1 ⟨rfl, hb⟩; have HR1 := hide ((un HR).later hb); have HB1 : Hid (Below w.heap.size w w1) := (un HB).trans (hb.mono (un HB).size); clear hb))
    | (refine storeT 30 15 info27 rfl (.tmp 6) (.tmp 10) rfl (w.heap.size + 1) z15 #[.string nm, .string sy, .int .i64 d0, .int .i64 d1, .int .i64 d2, .int .i64 d3, .int .i64 d4, .int .i64 d5, .int .i64 d6, .int .i64 d7, .string ⟨#[49]⟩, .string ⟨#[49]⟩, .string ⟨#[48]⟩, .string ⟨#[49]⟩, .int .i64 1] rfl rfl rfl rfl (un HR1) (by kernel_rfl) ?_))
  exact bodyPost_ret (v := .agg #[.string nm, .string sy, .int .i64 d0, .int .i64 d1, .int .i64 d2, .int .i64 d3, .int .i64 d4, .int .i64 d5, .int .i64 d6, .int .i64 d7, .string ⟨#[49]⟩, .string ⟨#[49]⟩, .string ⟨#[48]⟩, .string ⟨#[49]⟩, .int .i64 1]) (res30 Tryz.results25 _ _ (w.heap.size + 1) _ rfl rfl ((un HR1).setRow _)) rfl ⟨rfl, below_setRow (un HB1) (by omega) _⟩
def uAllS : Array Value := #[.string ⟨#[110, 101, 119, 116, 111, 110]⟩, .string ⟨#[78]⟩, .int .i64 1, .int .i64 1, .int .i64 (-2), .int .i64 0, .int .i64 0, .int .i64 0, .int .i64 0, .int .i64 0, .string ⟨#[49]⟩, .string ⟨#[49]⟩, .string ⟨#[48]⟩, .string ⟨#[49]⟩, .int .i64 1, .string ⟨#[112, 97, 115, 99, 97, 108]⟩, .string ⟨#[80, 97]⟩, .int .i64 (-1), .int .i64 1, .int .i64 (-2), .int .i64 0, .int .i64 0, .int .i64 0, .int .i64 0, .int .i64 0, .string ⟨#[49]⟩, .string ⟨#[49]⟩, .string ⟨#[48]⟩, .string ⟨#[49]⟩, .int .i64 1, .string ⟨#[106, 111, 117, 108, 101]⟩, .string ⟨#[74]⟩, .int .i64 2, .int .i64 1, .int .i64 (-2), .int .i64 0, .int .i64 0, .int .i64 0, .int .i64 0, .int .i64 0, .string ⟨#[49]⟩, .string ⟨#[49]⟩, .string ⟨#[48]⟩, .string ⟨#[49]⟩, .int .i64 1, .string ⟨#[119, 97, 116, 116]⟩, .string ⟨#[87]⟩, .int .i64 2, .int .i64 1, .int .i64 (-3), .int .i64 0, .int .i64 0, .int .i64 0, .int .i64 0, .int .i64 0, .string ⟨#[49]⟩, .string ⟨#[49]⟩, .string ⟨#[48]⟩, .string ⟨#[49]⟩, .int .i64 1, .string ⟨#[99, 111, 117, 108, 111, 109, 98]⟩, .string ⟨#[67]⟩, .int .i64 0, .int .i64 0, .int .i64 1, .int .i64 1, .int .i64 0, .int .i64 0, .int .i64 0, .int .i64 0, .string ⟨#[49]⟩, .string ⟨#[49]⟩, .string ⟨#[48]⟩, .string ⟨#[49]⟩, .int .i64 1, .string ⟨#[118, 111, 108, 116]⟩, .string ⟨#[86]⟩, .int .i64 2, .int .i64 1, .int .i64 (-3), .int .i64 (-1), .int .i64 0, .int .i64 0, .int .i64 0, .int .i64 0, .string ⟨#[49]⟩, .string ⟨#[49]⟩, .string ⟨#[48]⟩, .string ⟨#[49]⟩, .int .i64 1, .string ⟨#[102, 97, 114, 97, 100]⟩, .string ⟨#[70]⟩, .int .i64 (-2), .int .i64 (-1), .int .i64 4, .int .i64 2, .int .i64 0, .int .i64 0, .int .i64 0, .int .i64 0, .string ⟨#[49]⟩, .string ⟨#[49]⟩, .string ⟨#[48]⟩, .string ⟨#[49]⟩, .int .i64 1, .string ⟨#[111, 104, 109]⟩, .string ⟨#[206, 169]⟩, .int .i64 2, .int .i64 1, .int .i64 (-3), .int .i64 (-2), .int .i64 0, .int .i64 0, .int .i64 0, .int .i64 0, .string ⟨#[49]⟩, .string ⟨#[49]⟩, .string ⟨#[48]⟩, .string ⟨#[49]⟩, .int .i64 1, .string ⟨#[115, 105, 101, 109, 101, 110, 115]⟩, .string ⟨#[83]⟩, .int .i64 (-2), .int .i64 (-1), .int .i64 3, .int .i64 2, .int .i64 0, .int .i64 0, .int .i64 0, .int .i64 0, .string ⟨#[49]⟩, .string ⟨#[49]⟩, .string ⟨#[48]⟩, .string ⟨#[49]⟩, .int .i64 1, .string ⟨#[119, 101, 98, 101, 114]⟩, .string ⟨#[87, 98]⟩, .int .i64 2, .int .i64 1, .int .i64 (-2), .int .i64 (-1), .int .i64 0, .int .i64 0, .int .i64 0, .int .i64 0, .string ⟨#[49]⟩, .string ⟨#[49]⟩, .string ⟨#[48]⟩, .string ⟨#[49]⟩, .int .i64 1, .string ⟨#[116, 101, 115, 108, 97]⟩, .string ⟨#[84]⟩, .int .i64 0, .int .i64 1, .int .i64 (-2), .int .i64 (-1), .int .i64 0, .int .i64 0, .int .i64 0, .int .i64 0, .string ⟨#[49]⟩, .string ⟨#[49]⟩, .string ⟨#[48]⟩, .string ⟨#[49]⟩, .int .i64 1, .string ⟨#[104, 101, 110, 114, 121]⟩, .string ⟨#[72]⟩, .int .i64 2, .int .i64 1, .int .i64 (-2), .int .i64 (-2), .int .i64 0, .int .i64 0, .int .i64 0, .int .i64 0, .string ⟨#[49]⟩, .string ⟨#[49]⟩, .string ⟨#[48]⟩, .string ⟨#[49]⟩, .int .i64 1, .string ⟨#[104, 101, 114, 116, 122]⟩, .string ⟨#[72, 122]⟩, .int .i64 0, .int .i64 0, .int .i64 (-1), .int .i64 0, .int .i64 0, .int .i64 0, .int .i64 0, .int .i64 0, .string ⟨#[49]⟩, .string ⟨#[49]⟩, .string ⟨#[48]⟩, .string ⟨#[49]⟩, .int .i64 1, .string ⟨#[98, 101, 99, 113, 117, 101, 114, 101, 108]⟩, .string ⟨#[66, 113]⟩, .int .i64 0, .int .i64 0, .int .i64 (-1), .int .i64 0, .int .i64 0, .int .i64 0, .int .i64 0, .int .i64 0, .string ⟨#[49]⟩, .string ⟨#[49]⟩, .string ⟨#[48]⟩, .string ⟨#[49]⟩, .int .i64 1, .string ⟨#[103, 114, 97, 121]⟩, .string ⟨#[71, 121]⟩, .int .i64 2, .int .i64 0, .int .i64 (-2), .int .i64 0, .int .i64 0, .int .i64 0, .int .i64 0, .int .i64 0, .string ⟨#[49]⟩, .string ⟨#[49]⟩, .string ⟨#[48]⟩, .string ⟨#[49]⟩, .int .i64 1, .string ⟨#[115, 105, 101, 118, 101, 114, 116]⟩, .string ⟨#[83, 118]⟩, .int .i64 2, .int .i64 0, .int .i64 (-2), .int .i64 0, .int .i64 0, .int .i64 0, .int .i64 0, .int .i64 0, .string ⟨#[49]⟩, .string ⟨#[49]⟩, .string ⟨#[48]⟩, .string ⟨#[49]⟩, .int .i64 1, .string ⟨#[107, 97, 116, 97, 108]⟩, .string ⟨#[107, 97, 116]⟩, .int .i64 0, .int .i64 0, .int .i64 (-1), .int .i64 0, .int .i64 0, .int .i64 1, .int .i64 0, .int .i64 0, .string ⟨#[49]⟩, .string ⟨#[49]⟩, .string ⟨#[48]⟩, .string ⟨#[49]⟩, .int .i64 1, .string ⟨#[114, 97, 100, 105, 97, 110]⟩, .string ⟨#[114, 97, 100]⟩, .int .i64 0, .int .i64 0, .int .i64 0, .int .i64 0, .int .i64 0, .int .i64 0, .int .i64 0, .int .i64 0, .string ⟨#[49]⟩, .string ⟨#[49]⟩, .string ⟨#[48]⟩, .string ⟨#[49]⟩, .int .i64 1, .string ⟨#[115, 116, 101, 114, 97, 100, 105, 97, 110]⟩, .string ⟨#[115, 114]⟩, .int .i64 0, .int .i64 0, .int .i64 0, .int .i64 0, .int .i64 0, .int .i64 0, .int .i64 0, .int .i64 0, .string ⟨#[49]⟩, .string ⟨#[49]⟩, .string ⟨#[48]⟩, .string ⟨#[49]⟩, .int .i64 1, .string ⟨#[108, 117, 109, 101, 110]⟩, .string ⟨#[108, 109]⟩, .int .i64 0, .int .i64 0, .int .i64 0, .int .i64 0, .int .i64 0, .int .i64 0, .int .i64 1, .int .i64 0, .string ⟨#[49]⟩, .string ⟨#[49]⟩, .string ⟨#[48]⟩, .string ⟨#[49]⟩, .int .i64 1, .string ⟨#[108, 117, 120]⟩, .string ⟨#[108, 120]⟩, .int .i64 (-2), .int .i64 0, .int .i64 0, .int .i64 0, .int .i64 0, .int .i64 0, .int .i64 1, .int .i64 0, .string ⟨#[49]⟩, .string ⟨#[49]⟩, .string ⟨#[48]⟩, .string ⟨#[49]⟩, .int .i64 1, .string ⟨#[109, 105, 110, 117, 116, 101]⟩, .string ⟨#[109, 105, 110]⟩, .int .i64 0, .int .i64 0, .int .i64 1, .int .i64 0, .int .i64 0, .int .i64 0, .int .i64 0, .int .i64 0, .string ⟨#[54, 48]⟩, .string ⟨#[49]⟩, .string ⟨#[48]⟩, .string ⟨#[49]⟩, .int .i64 0, .string ⟨#[104, 111, 117, 114]⟩, .string ⟨#[104]⟩, .int .i64 0, .int .i64 0, .int .i64 1, .int .i64 0, .int .i64 0, .int .i64 0, .int .i64 0, .int .i64 0, .string ⟨#[51, 54, 48, 48]⟩, .string ⟨#[49]⟩, .string ⟨#[48]⟩, .string ⟨#[49]⟩, .int .i64 0, .string ⟨#[100, 97, 121]⟩, .string ⟨#[100]⟩, .int .i64 0, .int .i64 0, .int .i64 1, .int .i64 0, .int .i64 0, .int .i64 0, .int .i64 0, .int .i64 0, .string ⟨#[56, 54, 52, 48, 48]⟩, .string ⟨#[49]⟩, .string ⟨#[48]⟩, .string ⟨#[49]⟩, .int .i64 0, .string ⟨#[108, 105, 116, 114, 101]⟩, .string ⟨#[76]⟩, .int .i64 3, .int .i64 0, .int .i64 0, .int .i64 0, .int .i64 0, .int .i64 0, .int .i64 0, .int .i64 0, .string ⟨#[49]⟩, .string ⟨#[49, 48, 48, 48]⟩, .string ⟨#[48]⟩, .string ⟨#[49]⟩, .int .i64 1, .string ⟨#[116, 111, 110, 110, 101]⟩, .string ⟨#[116]⟩, .int .i64 0, .int .i64 1, .int .i64 0, .int .i64 0, .int .i64 0, .int .i64 0, .int .i64 0, .int .i64 0, .string ⟨#[49, 48, 48, 48]⟩, .string ⟨#[49]⟩, .string ⟨#[48]⟩, .string ⟨#[49]⟩, .int .i64 1, .string ⟨#[98, 97, 114]⟩, .string ⟨#[98, 97, 114]⟩, .int .i64 (-1), .int .i64 1, .int .i64 (-2), .int .i64 0, .int .i64 0, .int .i64 0, .int .i64 0, .int .i64 0, .string ⟨#[49, 48, 48, 48, 48, 48]⟩, .string ⟨#[49]⟩, .string ⟨#[48]⟩, .string ⟨#[49]⟩, .int .i64 1, .string ⟨#[104, 101, 99, 116, 97, 114, 101]⟩, .string ⟨#[104, 97]⟩, .int .i64 2, .int .i64 0, .int .i64 0, .int .i64 0, .int .i64 0, .int .i64 0, .int .i64 0, .int .i64 0, .string ⟨#[49, 48, 48, 48, 48]⟩, .string ⟨#[49]⟩, .string ⟨#[48]⟩, .string ⟨#[49]⟩, .int .i64 0, .string ⟨#[98, 121, 116, 101]⟩, .string ⟨#[66]⟩, .int .i64 0, .int .i64 0, .int .i64 0, .int .i64 0, .int .i64 0, .int .i64 0, .int .i64 0, .int .i64 1, .string ⟨#[56]⟩, .string ⟨#[49]⟩, .string ⟨#[48]⟩, .string ⟨#[49]⟩, .int .i64 3]
theorem info30r : (Tryz.prog.info? 30).map (fun i => (i.zero, i.size, i.bytes)) = some (some (.agg z15), 15, 168) := by kernel_rfl
theorem under22r : Tryz.prog.underlying 22 = some (.slice 30) := by kernel_rfl
set_option maxRecDepth 100000 in
set_option maxHeartbeats 8000000 in
theorem refUnitsS (w : World) : Calls Tryz.prog 10 #[] w fun r w' => ∃ W, r = .returned (.slice (some ⟨W.heap.size, 0, none⟩) 29 29) ∧ w' = W.alloc (.cells uAllS 30) ∧ Below w.heap.size w W := by
  obtain ⟨i0, hi, hz0, hz1, hz2⟩ := info_parts info30r
  have HI0 := hide hi; have HZ0 := hide hz0; have HZ1 := hide hz1
  have HB : Hid (Below w.heap.size w w) := Below.refl _ _
  clear hi hz0 hz1 hz2
  go_enter Tryz.func10, Tryz.ntmps10
  go_wp2_with (first
    | (go_at_call 25; go_must (refine (refCoh _ _ _ _ _ _ _ _ _ _ _).mono ?_; rintro e W1 ⟨rfl, hb⟩; have HBn : Hid (Below w.heap.size w W1) := (un HB).trans (hb.mono (un HB).size); clear hb HB; have HB := HBn; clear HBn))
    | (go_at_call 26; go_must (refine (refUnit _ _ _ _ _ _ _ _ _ _ _ _ _ _).mono ?_; rintro e W1 ⟨rfl, hb⟩; have HBn : Hid (Below w.heap.size w W1) := (un HB).trans (hb.mono (un HB).size); clear hb HB; have HB := HBn; clear HBn))
    | (refine wpList_buildSlice rfl 22 30 29 _ rfl uAllS i0 (.agg z15) under22r (un HI0) (un HZ0) (by rw [un HZ1]; decide) (by rw [un HZ1]; decide) (by rw [un HZ1]; kernel_rfl) ?_))
  go_ret
  exact ⟨W1, rfl, rfl, un HB⟩
end Go.Proofs.YthcbhnggphdflaaGreatDoor

namespace Go.Proofs.YthcbhnggphdflaaGreatDoor
open Go.RowKit
theorem uAllS_ex : ∀ k, k < 29 → uAllS.extract (k * 15) (k * 15 + 15) = ruT k
  | 0, _ => by kernel_rfl
  | 1, _ => by kernel_rfl
  | 2, _ => by kernel_rfl
  | 3, _ => by kernel_rfl
  | 4, _ => by kernel_rfl
  | 5, _ => by kernel_rfl
  | 6, _ => by kernel_rfl
  | 7, _ => by kernel_rfl
  | 8, _ => by kernel_rfl
  | 9, _ => by kernel_rfl
  | 10, _ => by kernel_rfl
  | 11, _ => by kernel_rfl
  | 12, _ => by kernel_rfl
  | 13, _ => by kernel_rfl
  | 14, _ => by kernel_rfl
  | 15, _ => by kernel_rfl
  | 16, _ => by kernel_rfl
  | 17, _ => by kernel_rfl
  | 18, _ => by kernel_rfl
  | 19, _ => by kernel_rfl
  | 20, _ => by kernel_rfl
  | 21, _ => by kernel_rfl
  | 22, _ => by kernel_rfl
  | 23, _ => by kernel_rfl
  | 24, _ => by kernel_rfl
  | 25, _ => by kernel_rfl
  | 26, _ => by kernel_rfl
  | 27, _ => by kernel_rfl
  | 28, _ => by kernel_rfl
  | _ + 29, h => absurd h (by omega)
theorem uAllS_size : uAllS.size = 435 := by kernel_rfl
theorem uAllS_row (k : Nat) (hk : k < 29) (i : Nat) (v : Value) (h : (ruT k)[i]? = some v) : uAllS[k * 15 + i]? = some v := by
  have hi : i < 15 := by have := (Array.getElem?_eq_some_iff.1 h).1; rw [ruT_size] at this; exact this
  rw [← uAllS_ex k hk, Array.getElem?_extract, if_pos (by rw [uAllS_size]; omega)] at h
  exact h
def UR (W : World) (g k : Nat) : Prop := ∀ i v, (ruT k)[i]? = some v → W.cell? ⟨g, k * 15 + i, none⟩ = some v
theorem UR.later {W V : World} {B g k : Nat} (h : UR W g k) (hb : Below B W V) (hg : g < B) : UR V g k := fun i v e => (hb.cell (p := ⟨g, k * 15 + i, none⟩) hg).trans (h i v e)
theorem uAllS_at (W : World) (k : Nat) (hk : k < 29) : UR (W.alloc (.cells uAllS 30)) W.heap.size k := fun i v e => (OwnU.new W uAllS 30).ub.c _ _ (uAllS_row k hk i v e)
end Go.Proofs.YthcbhnggphdflaaGreatDoor

namespace Go.Proofs.YthcbhnggphdflaaGreatDoor
open Go.RowKit
def MadeV (p : Nat → Bool) (v : Value) (W : World) (base : Nat) : Prop := (∃ k : Nat, k < 29 ∧ IsF29 p (k : Int) ∧ ∃ x, v = .tuple #[x, .bool true] ∧ W.ownsRow base 40 2 x (cntM (evF (sut k)) 8) (mkL (evF (sut k)) 8)) ∨ (IsF29 p (-1) ∧ v = .tuple #[.slice none 0 0, .bool false])
def URE (W : World) (g k : Nat) (nm sy fn fd : ByteArray) (ev : Nat → Int) (tk : Int) : Prop := ∀ i v, (#[.string nm, .string sy, .int .i64 (ev 0), .int .i64 (ev 1), .int .i64 (ev 2), .int .i64 (ev 3), .int .i64 (ev 4), .int .i64 (ev 5), .int .i64 (ev 6), .int .i64 (ev 7), .string fn, .string fd, .string ⟨#[48]⟩, .string ⟨#[49]⟩, .int .i64 tk] : Array Value)[i]? = some v → W.cell? ⟨g, k * 15 + i, none⟩ = some v
set_option maxRecDepth 100000 in
set_option maxHeartbeats 8000000 in
theorem refMade (s : ByteArray) (w : World) : Calls Tryz.prog 14 #[.string s] w fun r w' => ∃ v, r = .returned v ∧ MadeV (suB s) v w' w.heap.size ∧ Below w.heap.size w w' := by
  go_enter Tryz.func14, Tryz.ntmps14
  go_upto_region 2 with (go_at_call 10; go_must (refine (refUnitsS _).mono ?_; rintro e W0 ⟨W, rfl, rfl, hb⟩; have HUW := hide (fun k hk => uAllS_at W k hk); have HGW : Hid (W.heap.size < (W.alloc (.cells uAllS 30)).heap.size) := (by show _ < _; simp); have HBW : Hid (Below w.heap.size w (W.alloc (.cells uAllS 30))) := hb.alloc hb.size _; clear hb; obtain ⟨g, hgU⟩ : ∃ gU, gU = W.heap.size := ⟨_, rfl⟩; obtain ⟨V3, hV3⟩ : ∃ V3, V3 = W.alloc (.cells uAllS 30) := ⟨_, rfl⟩; rw [← hV3, ← hgU] at HUW HGW; rw [← hV3] at HBW; rw [← hV3, ← hgU]; clear hgU hV3))
  go_loopw [8] (fun s8 wr => ∃ (k : Nat), k ≤ 29 ∧ s8 = .int .i64 (k : Int) ∧ Hid (∀ i, i < k → suB s i = false) ∧ Hid (∀ i, i < 29 → UR wr g i) ∧ Hid (g < wr.heap.size) ∧ Hid (Below w.heap.size w wr)) (fun s8 _ => 29 - (intOf s8).toNat)
  case atStart => exact ⟨0, by omega, rfl, fun i hi => absurd hi (by omega), HUW, HGW, HBW⟩
  case round =>
    clear HUW HGW HBW
    obtain ⟨k, hk, rfl, HN, HR, HG, HB⟩ := hrel
    by_cases hk8 : k < 29
    · have hkI : (k : Int) < 29 := by omega
      have hk0 : (0 : Int) ≤ (k : Int) := by omega
      have hrow : URE wr g k (sut k).nm (sut k).sy (sfn k) (sfd k) (evF (sut k)) (sut k).tk := un HR k hk8
      have HNK := hide (fun (e : suB s k = false) => none_succ (un HN) e)
      have HYK : Hid (∀ (x : Value) (W : World), suB s k = true → W.ownsRow w.heap.size 40 2 x (cntM (evF (sut k)) 8) (mkL (evF (sut k)) 8) → MadeV (suB s) (.tuple #[x, .bool true]) W w.heap.size) := fun x W e ho => Or.inl ⟨k, hk8, Or.inl ⟨k, hk8, rfl, e, un HN⟩, x, rfl, ho⟩
      have HSB : Hid (suB s k = ((sut k).nm.toList == s.toList || (sut k).sy.toList == s.toList)) := rfl
      generalize (sut k).nm = nm at *
      generalize (sut k).sy = sy at *
      generalize evF (sut k) = ev at *
      generalize (sut k).tk = tk at *
      generalize sfn k = fn at *
      generalize sfd k = fd at *
      have c0 : wr.cell? ⟨g, k * 15, none⟩ = some (.string nm) := hrow 0 _ rfl
      have c1 : wr.cell? ⟨g, k * 15 + 1, none⟩ = some (.string sy) := hrow 1 _ rfl
      have c2 : wr.cell? ⟨g, k * 15 + 2, none⟩ = some (.int .i64 (ev 0)) := hrow 2 _ rfl
      have c3 : wr.cell? ⟨g, k * 15 + 3, none⟩ = some (.int .i64 (ev 1)) := hrow 3 _ rfl
      have c4 : wr.cell? ⟨g, k * 15 + 4, none⟩ = some (.int .i64 (ev 2)) := hrow 4 _ rfl
      have c5 : wr.cell? ⟨g, k * 15 + 5, none⟩ = some (.int .i64 (ev 3)) := hrow 5 _ rfl
      have c6 : wr.cell? ⟨g, k * 15 + 6, none⟩ = some (.int .i64 (ev 4)) := hrow 6 _ rfl
      have c7 : wr.cell? ⟨g, k * 15 + 7, none⟩ = some (.int .i64 (ev 5)) := hrow 7 _ rfl
      have c8 : wr.cell? ⟨g, k * 15 + 8, none⟩ = some (.int .i64 (ev 6)) := hrow 8 _ rfl
      have c9 : wr.cell? ⟨g, k * 15 + 9, none⟩ = some (.int .i64 (ev 7)) := hrow 9 _ rfl
      have c10 : wr.cell? ⟨g, k * 15 + 10, none⟩ = some (.string fn) := hrow 10 _ rfl
      have c11 : wr.cell? ⟨g, k * 15 + 11, none⟩ = some (.string fd) := hrow 11 _ rfl
      have c12 : wr.cell? ⟨g, k * 15 + 12, none⟩ = some (.string ⟨#[48]⟩) := hrow 12 _ rfl
      have c13 : wr.cell? ⟨g, k * 15 + 13, none⟩ = some (.string ⟨#[49]⟩) := hrow 13 _ rfl
      have c14 : wr.cell? ⟨g, k * 15 + 14, none⟩ = some (.int .i64 tk) := hrow 14 _ rfl
      clear hrow
      go_upto_region 4 with (refine storeT 30 15 info27 rfl (.tmp 5) (.tmp 11) rfl wr.heap.size z15 #[.string nm, .string sy, .int .i64 (ev 0), .int .i64 (ev 1), .int .i64 (ev 2), .int .i64 (ev 3), .int .i64 (ev 4), .int .i64 (ev 5), .int .i64 (ev 6), .int .i64 (ev 7), .string fn, .string fd, .string ⟨#[48]⟩, .string ⟨#[49]⟩, .int .i64 tk] rfl rfl rfl rfl (OwnU.new _ _ _) (by kernel_rfl) ?_)
      clear c0 c1 c2 c3 c4 c5 c6 c7 c8 c9 c10 c11 c12 c13 c14
      have hb2 : Below wr.heap.size wr ((wr.alloc (.cells z15 30)).setRow wr.heap.size #[.string nm, .string sy, .int .i64 (ev 0), .int .i64 (ev 1), .int .i64 (ev 2), .int .i64 (ev 3), .int .i64 (ev 4), .int .i64 (ev 5), .int .i64 (ev 6), .int .i64 (ev 7), .string fn, .string fd, .string ⟨#[48]⟩, .string ⟨#[49]⟩, .int .i64 tk]) := below_setRow (albel _ _) (Nat.le_refl _) _
      have HX2 : Hid (OwnU ((wr.alloc (.cells z15 30)).setRow wr.heap.size #[.string nm, .string sy, .int .i64 (ev 0), .int .i64 (ev 1), .int .i64 (ev 2), .int .i64 (ev 3), .int .i64 (ev 4), .int .i64 (ev 5), .int .i64 (ev 6), .int .i64 (ev 7), .string fn, .string fd, .string ⟨#[48]⟩, .string ⟨#[49]⟩, .int .i64 tk]) wr.heap.size 30 #[.string nm, .string sy, .int .i64 (ev 0), .int .i64 (ev 1), .int .i64 (ev 2), .int .i64 (ev 3), .int .i64 (ev 4), .int .i64 (ev 5), .int .i64 (ev 6), .int .i64 (ev 7), .string fn, .string fd, .string ⟨#[48]⟩, .string ⟨#[49]⟩, .int .i64 tk]) := (OwnU.new _ _ _).setRow _
      have HB2 : Hid (Below w.heap.size w _) := (un HB).trans (hb2.mono (un HB).size)
      have HR2 : Hid (∀ i, i < 29 → UR _ g i) := fun i hi => (un HR i hi).later hb2 (un HG)
      have HG2 : Hid (g < _) := Nat.lt_of_lt_of_le (un HG) hb2.size
      clear hb2 HB HR HG
      generalize (wr.alloc (.cells z15 30)).setRow wr.heap.size #[.string nm, .string sy, .int .i64 (ev 0), .int .i64 (ev 1), .int .i64 (ev 2), .int .i64 (ev 3), .int .i64 (ev 4), .int .i64 (ev 5), .int .i64 (ev 6), .int .i64 (ev 7), .string fn, .string fd, .string ⟨#[48]⟩, .string ⟨#[49]⟩, .int .i64 tk] = w2 at *
      generalize wr.heap.size = g5 at *
      have d0 : w2.cell? ⟨g5, 0, none⟩ = some (.string nm) := (un HX2).ub.c 0 _ rfl
      have d1 : w2.cell? ⟨g5, 1, none⟩ = some (.string sy) := (un HX2).ub.c 1 _ rfl
      have d2 : w2.cell? ⟨g5, 2, none⟩ = some (.int .i64 (ev 0)) := (un HX2).ub.c 2 _ rfl
      have d3 : w2.cell? ⟨g5, 3, none⟩ = some (.int .i64 (ev 1)) := (un HX2).ub.c 3 _ rfl
      have d4 : w2.cell? ⟨g5, 4, none⟩ = some (.int .i64 (ev 2)) := (un HX2).ub.c 4 _ rfl
      have d5 : w2.cell? ⟨g5, 5, none⟩ = some (.int .i64 (ev 3)) := (un HX2).ub.c 5 _ rfl
      have d6 : w2.cell? ⟨g5, 6, none⟩ = some (.int .i64 (ev 4)) := (un HX2).ub.c 6 _ rfl
      have d7 : w2.cell? ⟨g5, 7, none⟩ = some (.int .i64 (ev 5)) := (un HX2).ub.c 7 _ rfl
      have d8 : w2.cell? ⟨g5, 8, none⟩ = some (.int .i64 (ev 6)) := (un HX2).ub.c 8 _ rfl
      have d9 : w2.cell? ⟨g5, 9, none⟩ = some (.int .i64 (ev 7)) := (un HX2).ub.c 9 _ rfl
      by_cases hB : suB s k = true
      · have HJ := hide (fun x W => un HYK x W hB)
        have hor : (nm.toList == s.toList) = true ∨ ((nm.toList == s.toList) = false ∧ (sy.toList == s.toList) = true) := by
          have h := (un HSB).symm.trans hB
          cases h1 : (nm.toList == s.toList) with
          | true => exact Or.inl rfl
          | false => rw [h1] at h; exact Or.inr ⟨rfl, by simpa using h⟩
        clear HNK HYK hB HSB HN
        rcases hor with hn1 | ⟨hn1, hn2⟩
        all_goals
          go_wp2_with (go_at_call 29; go_must (refine (refParts ev _).mono ?_; rintro e W6 ⟨v, rfl, hown, hb⟩; have HOW : Hid (W6.ownsRow w.heap.size 40 2 v (cntM ev 8) (mkL ev 8)) := hown.mono (un HB2).size; have HB6 : Hid (Below w.heap.size w W6) := (un HB2).trans (hb.mono (un HB2).size); clear hown hb))
          exact bodyPost_ret (v := .tuple #[v, .bool true]) (by simp [results, Tryz.results14, go_sem]) rfl ⟨_, rfl, un HJ v _ (un HOW), un HB6⟩
      · have hB' : suB s k = false := by simpa using hB
        have HJ := hide (un HNK hB')
        obtain ⟨hn1, hn2⟩ : (nm.toList == s.toList) = false ∧ (sy.toList == s.toList) = false := by
          have h := (un HSB).symm.trans hB'
          simpa using h
        clear HNK HYK hB hB' HSB HN
        go_wp2_with fail
        go_roundw
        case rel => exact ⟨k + 1, by omega, by go_num, HJ, HR2, HG2, HB2⟩
        case measure => simp [intOf]; omega
    · have hkI : ¬ (k : Int) < 29 := by omega
      go_wp2_with fail
      exact bodyPost_ret (v := .tuple #[.slice none 0 0, .bool false]) (by simp [results, Tryz.results14, go_sem]) rfl ⟨_, rfl, Or.inr ⟨Or.inr ⟨rfl, fun i hi => un HN i (by omega)⟩, rfl⟩, un HB⟩
end Go.Proofs.YthcbhnggphdflaaGreatDoor

/- rightTakes, rightUnit. -/
import Derived.Test.YtbjafaojcaafmaaGreatDoorNmClass
import Derived.Test.YtbjafaojcaafmaaGreatDoorNmFold
import Derived.Deep.Quiet
import Derived.BigQuiet
namespace Go.Proofs.YtbjafaojcaafmaaGreatDoor
open Go.RowKit
theorem lg_det {s : ByteArray} {p : Nat} {f : Int} {acc o1 o2 : List UInt8} {q1 q2 : Nat} (h1 : Nm.Lg s p f acc o1 q1) (h2 : Nm.Lg s p f acc o2 q2) : o1 = o2 ∧ q1 = q2 := by
  induction h1 with
  | stop p f acc hl hc =>
    cases h2 with
    | stop => exact ⟨rfl, rfl⟩
    | done _ _ _ hn => exact absurd hl hn
    | step _ _ _ _ _ _ hc' _ => rw [hc] at hc'; cases hc'
  | done p f acc hn =>
    cases h2 with
    | stop _ _ _ hl => exact absurd hl hn
    | done => exact ⟨rfl, rfl⟩
    | step _ _ _ _ _ hl _ _ => exact absurd hl hn
  | step p f acc out q hl hc _ ih =>
    cases h2 with
    | stop _ _ _ _ hc' => rw [hc] at hc'; cases hc'
    | done _ _ _ hn => exact absurd hl hn
    | step _ _ _ _ _ _ _ h' => exact ih h'
set_option maxRecDepth 100000 in
set_option maxHeartbeats 2000000 in
theorem nameRight (s : ByteArray) (w : World) (h : Nm.Lg s 0 0 [] s.data.toList s.size) (h0 : s.size ≠ 0) (h40 : s.size ≤ 40) (hin : s.data.toList ≠ [105, 110]) :
    Calls Tryz.prog 46 #[.string s] w fun r w' => r = .returned (.bool true) ∧ Below w.heap.size w w' := by
  have HF : Hid (∀ W, Calls Tryz.prog 55 #[.string s] W fun e w' => e = .returned (.tuple #[.string s, .int .i64 0, .int .i64 0]) ∧ Below W.heap.size W w') := fun W => by
    refine (Nm.fold_any s W (by omega)).mono ?_
    rintro e w' ⟨⟨out, q, rfl, hl⟩, hb⟩
    obtain ⟨rfl, rfl⟩ := lg_det h hl
    refine ⟨?_, hb⟩
    unfold Nm.foldV
    rw [if_neg (by omega), if_neg (by have : s.data.toList.length = s.size := by simp
                                      omega), if_neg hin]
  clear h h0 h40 hin
  go_enter Tryz.func46, Tryz.ntmps46
  go_wp2_with (go_at_call 55; go_must (refine (unhide HF _).mono ?_; rintro e w1 ⟨rfl, hb⟩; have HB := hide hb; clear hb))
  go_ret
  exact ⟨rfl, unhide HB⟩
theorem lg_step {s : ByteArray} {p : Nat} {f : Int} {acc out : List UInt8} {q : Nat} (p' : Nat) (f' : Int) (acc' : List UInt8) (h1 : p < s.size) (h2 : Nm.contB p f (Utf8.decode s p).1 = true) (h3 : p + (Utf8.decode s p).2 = p') (h4 : Nm.firstOf p f (Utf8.decode s p).1 = f') (h5 : acc ++ Lib.encodeRune (Nm.foldR (Utf8.decode s p).1) = acc') (h : Nm.Lg s p' f' acc' out q) : Nm.Lg s p f acc out q := by
  subst h3 h4 h5
  exact Nm.Lg.step _ _ _ _ _ h1 h2 h
theorem lg_bit : Nm.Lg ⟨#[98, 105, 116]⟩ 0 0 [] (⟨#[98, 105, 116]⟩ : ByteArray).data.toList (⟨#[98, 105, 116]⟩ : ByteArray).size := by
  refine lg_step 1 98 [98] (by decide +kernel) (by decide +kernel) (by decide +kernel) (by decide +kernel) (by decide +kernel) ?_
  refine lg_step 2 98 [98, 105] (by decide +kernel) (by decide +kernel) (by decide +kernel) (by decide +kernel) (by decide +kernel) ?_
  refine lg_step 3 98 [98, 105, 116] (by decide +kernel) (by decide +kernel) (by decide +kernel) (by decide +kernel) (by decide +kernel) ?_
  exact Nm.Lg.done _ _ _ (by decide +kernel)
theorem lg_b : Nm.Lg ⟨#[98]⟩ 0 0 [] (⟨#[98]⟩ : ByteArray).data.toList (⟨#[98]⟩ : ByteArray).size := by
  refine lg_step 1 98 [98] (by decide +kernel) (by decide +kernel) (by decide +kernel) (by decide +kernel) (by decide +kernel) ?_
  exact Nm.Lg.done _ _ _ (by decide +kernel)
theorem lg_mole : Nm.Lg ⟨#[109, 111, 108, 101]⟩ 0 0 [] (⟨#[109, 111, 108, 101]⟩ : ByteArray).data.toList (⟨#[109, 111, 108, 101]⟩ : ByteArray).size := by
  refine lg_step 1 109 [109] (by decide +kernel) (by decide +kernel) (by decide +kernel) (by decide +kernel) (by decide +kernel) ?_
  refine lg_step 2 109 [109, 111] (by decide +kernel) (by decide +kernel) (by decide +kernel) (by decide +kernel) (by decide +kernel) ?_
  refine lg_step 3 109 [109, 111, 108] (by decide +kernel) (by decide +kernel) (by decide +kernel) (by decide +kernel) (by decide +kernel) ?_
  refine lg_step 4 109 [109, 111, 108, 101] (by decide +kernel) (by decide +kernel) (by decide +kernel) (by decide +kernel) (by decide +kernel) ?_
  exact Nm.Lg.done _ _ _ (by decide +kernel)
theorem lg_mol : Nm.Lg ⟨#[109, 111, 108]⟩ 0 0 [] (⟨#[109, 111, 108]⟩ : ByteArray).data.toList (⟨#[109, 111, 108]⟩ : ByteArray).size := by
  refine lg_step 1 109 [109] (by decide +kernel) (by decide +kernel) (by decide +kernel) (by decide +kernel) (by decide +kernel) ?_
  refine lg_step 2 109 [109, 111] (by decide +kernel) (by decide +kernel) (by decide +kernel) (by decide +kernel) (by decide +kernel) ?_
  refine lg_step 3 109 [109, 111, 108] (by decide +kernel) (by decide +kernel) (by decide +kernel) (by decide +kernel) (by decide +kernel) ?_
  exact Nm.Lg.done _ _ _ (by decide +kernel)
theorem lg_second : Nm.Lg ⟨#[115, 101, 99, 111, 110, 100]⟩ 0 0 [] (⟨#[115, 101, 99, 111, 110, 100]⟩ : ByteArray).data.toList (⟨#[115, 101, 99, 111, 110, 100]⟩ : ByteArray).size := by
  refine lg_step 1 115 [115] (by decide +kernel) (by decide +kernel) (by decide +kernel) (by decide +kernel) (by decide +kernel) ?_
  refine lg_step 2 115 [115, 101] (by decide +kernel) (by decide +kernel) (by decide +kernel) (by decide +kernel) (by decide +kernel) ?_
  refine lg_step 3 115 [115, 101, 99] (by decide +kernel) (by decide +kernel) (by decide +kernel) (by decide +kernel) (by decide +kernel) ?_
  refine lg_step 4 115 [115, 101, 99, 111] (by decide +kernel) (by decide +kernel) (by decide +kernel) (by decide +kernel) (by decide +kernel) ?_
  refine lg_step 5 115 [115, 101, 99, 111, 110] (by decide +kernel) (by decide +kernel) (by decide +kernel) (by decide +kernel) (by decide +kernel) ?_
  refine lg_step 6 115 [115, 101, 99, 111, 110, 100] (by decide +kernel) (by decide +kernel) (by decide +kernel) (by decide +kernel) (by decide +kernel) ?_
  exact Nm.Lg.done _ _ _ (by decide +kernel)
theorem lg_s : Nm.Lg ⟨#[115]⟩ 0 0 [] (⟨#[115]⟩ : ByteArray).data.toList (⟨#[115]⟩ : ByteArray).size := by
  refine lg_step 1 115 [115] (by decide +kernel) (by decide +kernel) (by decide +kernel) (by decide +kernel) (by decide +kernel) ?_
  exact Nm.Lg.done _ _ _ (by decide +kernel)
theorem lg_ampere : Nm.Lg ⟨#[97, 109, 112, 101, 114, 101]⟩ 0 0 [] (⟨#[97, 109, 112, 101, 114, 101]⟩ : ByteArray).data.toList (⟨#[97, 109, 112, 101, 114, 101]⟩ : ByteArray).size := by
  refine lg_step 1 97 [97] (by decide +kernel) (by decide +kernel) (by decide +kernel) (by decide +kernel) (by decide +kernel) ?_
  refine lg_step 2 97 [97, 109] (by decide +kernel) (by decide +kernel) (by decide +kernel) (by decide +kernel) (by decide +kernel) ?_
  refine lg_step 3 97 [97, 109, 112] (by decide +kernel) (by decide +kernel) (by decide +kernel) (by decide +kernel) (by decide +kernel) ?_
  refine lg_step 4 97 [97, 109, 112, 101] (by decide +kernel) (by decide +kernel) (by decide +kernel) (by decide +kernel) (by decide +kernel) ?_
  refine lg_step 5 97 [97, 109, 112, 101, 114] (by decide +kernel) (by decide +kernel) (by decide +kernel) (by decide +kernel) (by decide +kernel) ?_
  refine lg_step 6 97 [97, 109, 112, 101, 114, 101] (by decide +kernel) (by decide +kernel) (by decide +kernel) (by decide +kernel) (by decide +kernel) ?_
  exact Nm.Lg.done _ _ _ (by decide +kernel)
theorem lg_A : Nm.Lg ⟨#[65]⟩ 0 0 [] (⟨#[65]⟩ : ByteArray).data.toList (⟨#[65]⟩ : ByteArray).size := by
  refine lg_step 1 65 [65] (by decide +kernel) (by decide +kernel) (by decide +kernel) (by decide +kernel) (by decide +kernel) ?_
  exact Nm.Lg.done _ _ _ (by decide +kernel)
theorem lg_metre : Nm.Lg ⟨#[109, 101, 116, 114, 101]⟩ 0 0 [] (⟨#[109, 101, 116, 114, 101]⟩ : ByteArray).data.toList (⟨#[109, 101, 116, 114, 101]⟩ : ByteArray).size := by
  refine lg_step 1 109 [109] (by decide +kernel) (by decide +kernel) (by decide +kernel) (by decide +kernel) (by decide +kernel) ?_
  refine lg_step 2 109 [109, 101] (by decide +kernel) (by decide +kernel) (by decide +kernel) (by decide +kernel) (by decide +kernel) ?_
  refine lg_step 3 109 [109, 101, 116] (by decide +kernel) (by decide +kernel) (by decide +kernel) (by decide +kernel) (by decide +kernel) ?_
  refine lg_step 4 109 [109, 101, 116, 114] (by decide +kernel) (by decide +kernel) (by decide +kernel) (by decide +kernel) (by decide +kernel) ?_
  refine lg_step 5 109 [109, 101, 116, 114, 101] (by decide +kernel) (by decide +kernel) (by decide +kernel) (by decide +kernel) (by decide +kernel) ?_
  exact Nm.Lg.done _ _ _ (by decide +kernel)
theorem lg_m : Nm.Lg ⟨#[109]⟩ 0 0 [] (⟨#[109]⟩ : ByteArray).data.toList (⟨#[109]⟩ : ByteArray).size := by
  refine lg_step 1 109 [109] (by decide +kernel) (by decide +kernel) (by decide +kernel) (by decide +kernel) (by decide +kernel) ?_
  exact Nm.Lg.done _ _ _ (by decide +kernel)
theorem lg_gram : Nm.Lg ⟨#[103, 114, 97, 109]⟩ 0 0 [] (⟨#[103, 114, 97, 109]⟩ : ByteArray).data.toList (⟨#[103, 114, 97, 109]⟩ : ByteArray).size := by
  refine lg_step 1 103 [103] (by decide +kernel) (by decide +kernel) (by decide +kernel) (by decide +kernel) (by decide +kernel) ?_
  refine lg_step 2 103 [103, 114] (by decide +kernel) (by decide +kernel) (by decide +kernel) (by decide +kernel) (by decide +kernel) ?_
  refine lg_step 3 103 [103, 114, 97] (by decide +kernel) (by decide +kernel) (by decide +kernel) (by decide +kernel) (by decide +kernel) ?_
  refine lg_step 4 103 [103, 114, 97, 109] (by decide +kernel) (by decide +kernel) (by decide +kernel) (by decide +kernel) (by decide +kernel) ?_
  exact Nm.Lg.done _ _ _ (by decide +kernel)
theorem lg_g : Nm.Lg ⟨#[103]⟩ 0 0 [] (⟨#[103]⟩ : ByteArray).data.toList (⟨#[103]⟩ : ByteArray).size := by
  refine lg_step 1 103 [103] (by decide +kernel) (by decide +kernel) (by decide +kernel) (by decide +kernel) (by decide +kernel) ?_
  exact Nm.Lg.done _ _ _ (by decide +kernel)
theorem lg_candela : Nm.Lg ⟨#[99, 97, 110, 100, 101, 108, 97]⟩ 0 0 [] (⟨#[99, 97, 110, 100, 101, 108, 97]⟩ : ByteArray).data.toList (⟨#[99, 97, 110, 100, 101, 108, 97]⟩ : ByteArray).size := by
  refine lg_step 1 99 [99] (by decide +kernel) (by decide +kernel) (by decide +kernel) (by decide +kernel) (by decide +kernel) ?_
  refine lg_step 2 99 [99, 97] (by decide +kernel) (by decide +kernel) (by decide +kernel) (by decide +kernel) (by decide +kernel) ?_
  refine lg_step 3 99 [99, 97, 110] (by decide +kernel) (by decide +kernel) (by decide +kernel) (by decide +kernel) (by decide +kernel) ?_
  refine lg_step 4 99 [99, 97, 110, 100] (by decide +kernel) (by decide +kernel) (by decide +kernel) (by decide +kernel) (by decide +kernel) ?_
  refine lg_step 5 99 [99, 97, 110, 100, 101] (by decide +kernel) (by decide +kernel) (by decide +kernel) (by decide +kernel) (by decide +kernel) ?_
  refine lg_step 6 99 [99, 97, 110, 100, 101, 108] (by decide +kernel) (by decide +kernel) (by decide +kernel) (by decide +kernel) (by decide +kernel) ?_
  refine lg_step 7 99 [99, 97, 110, 100, 101, 108, 97] (by decide +kernel) (by decide +kernel) (by decide +kernel) (by decide +kernel) (by decide +kernel) ?_
  exact Nm.Lg.done _ _ _ (by decide +kernel)
theorem lg_cd : Nm.Lg ⟨#[99, 100]⟩ 0 0 [] (⟨#[99, 100]⟩ : ByteArray).data.toList (⟨#[99, 100]⟩ : ByteArray).size := by
  refine lg_step 1 99 [99] (by decide +kernel) (by decide +kernel) (by decide +kernel) (by decide +kernel) (by decide +kernel) ?_
  refine lg_step 2 99 [99, 100] (by decide +kernel) (by decide +kernel) (by decide +kernel) (by decide +kernel) (by decide +kernel) ?_
  exact Nm.Lg.done _ _ _ (by decide +kernel)
theorem lg_kelvin : Nm.Lg ⟨#[107, 101, 108, 118, 105, 110]⟩ 0 0 [] (⟨#[107, 101, 108, 118, 105, 110]⟩ : ByteArray).data.toList (⟨#[107, 101, 108, 118, 105, 110]⟩ : ByteArray).size := by
  refine lg_step 1 107 [107] (by decide +kernel) (by decide +kernel) (by decide +kernel) (by decide +kernel) (by decide +kernel) ?_
  refine lg_step 2 107 [107, 101] (by decide +kernel) (by decide +kernel) (by decide +kernel) (by decide +kernel) (by decide +kernel) ?_
  refine lg_step 3 107 [107, 101, 108] (by decide +kernel) (by decide +kernel) (by decide +kernel) (by decide +kernel) (by decide +kernel) ?_
  refine lg_step 4 107 [107, 101, 108, 118] (by decide +kernel) (by decide +kernel) (by decide +kernel) (by decide +kernel) (by decide +kernel) ?_
  refine lg_step 5 107 [107, 101, 108, 118, 105] (by decide +kernel) (by decide +kernel) (by decide +kernel) (by decide +kernel) (by decide +kernel) ?_
  refine lg_step 6 107 [107, 101, 108, 118, 105, 110] (by decide +kernel) (by decide +kernel) (by decide +kernel) (by decide +kernel) (by decide +kernel) ?_
  exact Nm.Lg.done _ _ _ (by decide +kernel)
theorem lg_K : Nm.Lg ⟨#[75]⟩ 0 0 [] (⟨#[75]⟩ : ByteArray).data.toList (⟨#[75]⟩ : ByteArray).size := by
  refine lg_step 1 75 [75] (by decide +kernel) (by decide +kernel) (by decide +kernel) (by decide +kernel) (by decide +kernel) ?_
  exact Nm.Lg.done _ _ _ (by decide +kernel)
set_option maxRecDepth 100000 in
set_option maxHeartbeats 2000000 in
theorem rightNames_any (a c : ByteArray) (w : World) (h1 : ∀ W, Calls Tryz.prog 46 #[.string a] W fun r w' => r = .returned (.bool true) ∧ Below W.heap.size W w') (h2 : ∀ W, Calls Tryz.prog 46 #[.string c] W fun r w' => r = .returned (.bool true) ∧ Below W.heap.size W w') :
    Calls Tryz.prog 36 #[.string a, .string c] w fun r w' => r = .returned (.bool true) ∧ Below w.heap.size w w' := by
  have H1 := hide h1; have H2 := hide h2
  clear h1 h2
  go_enter Tryz.func36, Tryz.ntmps36
  go_wp2_with (first
    | (go_at_call_of 46 a; go_must (refine (unhide H1 _).mono ?_; rintro e w1 ⟨rfl, hb⟩; have HB1 := hide hb; clear hb))
    | (go_at_call_of 46 c; go_must (refine (unhide H2 _).mono ?_; rintro e w2 ⟨rfl, hb⟩; have HB2 := hide ((unhide HB1).trans (hb.mono (unhide HB1).size)); clear hb)))
  go_ret
  exact ⟨rfl, unhide HB2⟩
end Go.Proofs.YtbjafaojcaafmaaGreatDoor

namespace Go.Proofs.YtbjafaojcaafmaaGreatDoor
open Go.RowKit
set_option maxRecDepth 100000 in
set_option maxHeartbeats 4000000 in
theorem rightTakes_1 (nm sy fn fd : ByteArray) (d0 d1 d2 d3 d4 d5 d6 d7 : Int) (w : World) (htab : Tab w) :
    Calls Tryz.prog 40 #[.agg #[.string nm, .string sy, .int .i64 d0, .int .i64 d1, .int .i64 d2, .int .i64 d3, .int .i64 d4, .int .i64 d5, .int .i64 d6, .int .i64 d7, .string fn, .string fd, .string ⟨#[48]⟩, .string ⟨#[49]⟩, .int .i64 1]] w fun r w' => r = .returned (.bool true) ∧ Below w.heap.size w w' := by
  obtain ⟨V, hV⟩ : ∃ V, V = w.alloc (.cells #[.string nm, .string sy, .int .i64 d0, .int .i64 d1, .int .i64 d2, .int .i64 d3, .int .i64 d4, .int .i64 d5, .int .i64 d6, .int .i64 d7, .string fn, .string fd, .string ⟨#[48]⟩, .string ⟨#[49]⟩, .int .i64 1] 30) := ⟨_, rfl⟩
  have HU : Hid (OwnU V w.heap.size 30 #[.string nm, .string sy, .int .i64 d0, .int .i64 d1, .int .i64 d2, .int .i64 d3, .int .i64 d4, .int .i64 d5, .int .i64 d6, .int .i64 d7, .string fn, .string fd, .string ⟨#[48]⟩, .string ⟨#[49]⟩, .int .i64 1]) := by rw [hV]; exact OwnU.new _ _ _
  have HB : Hid (Below w.heap.size w V) := by rw [hV]; exact (Below.refl _ _).alloc (Nat.le_refl _) _
  have HTA : Hid (∀ W, Below w.heap.size w W → Tab W) := fun W h => htab.later h
  have HV := hide hV
  clear hV htab
  go_enter Tryz.func40, Tryz.ntmps40
  go_upto_region 1 with fail
  rw [← unhide HV]
  clear HV
  have u12 : V.cell? ⟨w.heap.size, 12, none⟩ = some (.string ⟨#[48]⟩) := (unhide HU).ub.c 12 _ rfl; have u13 : V.cell? ⟨w.heap.size, 13, none⟩ = some (.string ⟨#[49]⟩) := (unhide HU).ub.c 13 _ rfl; have u14 : V.cell? ⟨w.heap.size, 14, none⟩ = some (.int .i64 1) := (unhide HU).ub.c 14 _ rfl
  go_upto_region 7 with fail
  have HUQ : Hid (∀ W, Below V.heap.size V W → Below w.heap.size w W) := fun W h => (unhide HB).trans (h.mono (unhide HB).size)
  have q0 : ∀ xz : Later V, xz.world.cell? ⟨w.heap.size, 12, none⟩ = some (.string ⟨#[48]⟩) := fun xz => ((unhide HU).later xz.below).ub.c 12 _ rfl
  have q1 : ∀ xz : Later V, xz.world.cell? ⟨w.heap.size, 13, none⟩ = some (.string ⟨#[49]⟩) := fun xz => ((unhide HU).later xz.below).ub.c 13 _ rfl
  refine quiet_later (by kernel_rfl) (by kernel_rfl) ?_
  repeat (go_big_quiet_step (first
    | (go_at_call 29; rename_i xx; refine (zero_of xx.world (unhide HTA _ (unhide HUQ _ xx.below))).mono ?_; rintro e w9 ⟨rfl, hb9⟩; have hz := xx.below.trans (hb9.mono xx.below.size); first | exact ⟨rfl, ⟨w9, hz⟩, rfl⟩ | exact ⟨rfl, hz⟩ | exact ⟨rfl, w9, hz, rfl⟩)))
  refine wpQuiet_nil ?_
  intro _ hw'
  obtain ⟨xz, hw''⟩ := hw'
  subst hw''
  have HE := hide (unhide HUQ _ xz.below)
  obtain ⟨G, hG⟩ : ∃ G, G = xz.world := ⟨_, rfl⟩
  rw [← hG] at HE ⊢
  clear q0 q1 hG xz HUQ
  go_wp2_with fail
  go_ret
  exact ⟨rfl, unhide HE⟩
set_option maxRecDepth 100000 in
set_option maxHeartbeats 4000000 in
theorem rightTakes_3 (nm sy fn fd : ByteArray) (d0 d1 d2 d3 d4 d5 d6 d7 : Int) (w : World) (htab : Tab w) :
    Calls Tryz.prog 40 #[.agg #[.string nm, .string sy, .int .i64 d0, .int .i64 d1, .int .i64 d2, .int .i64 d3, .int .i64 d4, .int .i64 d5, .int .i64 d6, .int .i64 d7, .string fn, .string fd, .string ⟨#[48]⟩, .string ⟨#[49]⟩, .int .i64 3]] w fun r w' => r = .returned (.bool true) ∧ Below w.heap.size w w' := by
  obtain ⟨V, hV⟩ : ∃ V, V = w.alloc (.cells #[.string nm, .string sy, .int .i64 d0, .int .i64 d1, .int .i64 d2, .int .i64 d3, .int .i64 d4, .int .i64 d5, .int .i64 d6, .int .i64 d7, .string fn, .string fd, .string ⟨#[48]⟩, .string ⟨#[49]⟩, .int .i64 3] 30) := ⟨_, rfl⟩
  have HU : Hid (OwnU V w.heap.size 30 #[.string nm, .string sy, .int .i64 d0, .int .i64 d1, .int .i64 d2, .int .i64 d3, .int .i64 d4, .int .i64 d5, .int .i64 d6, .int .i64 d7, .string fn, .string fd, .string ⟨#[48]⟩, .string ⟨#[49]⟩, .int .i64 3]) := by rw [hV]; exact OwnU.new _ _ _
  have HB : Hid (Below w.heap.size w V) := by rw [hV]; exact (Below.refl _ _).alloc (Nat.le_refl _) _
  have HTA : Hid (∀ W, Below w.heap.size w W → Tab W) := fun W h => htab.later h
  have HV := hide hV
  clear hV htab
  go_enter Tryz.func40, Tryz.ntmps40
  go_upto_region 1 with fail
  rw [← unhide HV]
  clear HV
  have u12 : V.cell? ⟨w.heap.size, 12, none⟩ = some (.string ⟨#[48]⟩) := (unhide HU).ub.c 12 _ rfl; have u13 : V.cell? ⟨w.heap.size, 13, none⟩ = some (.string ⟨#[49]⟩) := (unhide HU).ub.c 13 _ rfl; have u14 : V.cell? ⟨w.heap.size, 14, none⟩ = some (.int .i64 3) := (unhide HU).ub.c 14 _ rfl
  go_upto_region 7 with fail
  have HUQ : Hid (∀ W, Below V.heap.size V W → Below w.heap.size w W) := fun W h => (unhide HB).trans (h.mono (unhide HB).size)
  have q0 : ∀ xz : Later V, xz.world.cell? ⟨w.heap.size, 12, none⟩ = some (.string ⟨#[48]⟩) := fun xz => ((unhide HU).later xz.below).ub.c 12 _ rfl
  have q1 : ∀ xz : Later V, xz.world.cell? ⟨w.heap.size, 13, none⟩ = some (.string ⟨#[49]⟩) := fun xz => ((unhide HU).later xz.below).ub.c 13 _ rfl
  refine quiet_later (by kernel_rfl) (by kernel_rfl) ?_
  repeat (go_big_quiet_step (first
    | (go_at_call 29; rename_i xx; refine (zero_of xx.world (unhide HTA _ (unhide HUQ _ xx.below))).mono ?_; rintro e w9 ⟨rfl, hb9⟩; have hz := xx.below.trans (hb9.mono xx.below.size); first | exact ⟨rfl, ⟨w9, hz⟩, rfl⟩ | exact ⟨rfl, hz⟩ | exact ⟨rfl, w9, hz, rfl⟩)))
  refine wpQuiet_nil ?_
  intro _ hw'
  obtain ⟨xz, hw''⟩ := hw'
  subst hw''
  have HE := hide (unhide HUQ _ xz.below)
  obtain ⟨G, hG⟩ : ∃ G, G = xz.world := ⟨_, rfl⟩
  rw [← hG] at HE ⊢
  clear q0 q1 hG xz HUQ
  go_wp2_with fail
  go_ret
  exact ⟨rfl, unhide HE⟩
set_option maxRecDepth 100000 in
set_option maxHeartbeats 4000000 in
theorem rightUnit_any (nm sy fn fd on od : ByteArray) (d0 d1 d2 d3 d4 d5 d6 d7 tk : Int) (w : World)
    (h36 : ∀ W, Below w.heap.size w W → Calls Tryz.prog 36 #[.string nm, .string sy] W fun r w' => r = .returned (.bool true) ∧ Below W.heap.size W w')
    (h37 : ∀ W, Below w.heap.size w W → Calls Tryz.prog 37 #[.agg #[.int .i64 d0, .int .i64 d1, .int .i64 d2, .int .i64 d3, .int .i64 d4, .int .i64 d5, .int .i64 d6, .int .i64 d7]] W fun r w' => r = .returned (.bool true) ∧ Below W.heap.size W w')
    (h38 : ∀ W, Below w.heap.size w W → Calls Tryz.prog 38 #[.agg #[.string fn, .string fd]] W fun r w' => r = .returned (.bool true) ∧ Below W.heap.size W w')
    (h39 : ∀ W, Below w.heap.size w W → Calls Tryz.prog 39 #[.agg #[.string on, .string od]] W fun r w' => r = .returned (.bool true) ∧ Below W.heap.size W w')
    (h40 : ∀ W, Below w.heap.size w W → Calls Tryz.prog 40 #[.agg #[.string nm, .string sy, .int .i64 d0, .int .i64 d1, .int .i64 d2, .int .i64 d3, .int .i64 d4, .int .i64 d5, .int .i64 d6, .int .i64 d7, .string fn, .string fd, .string on, .string od, .int .i64 tk]] W fun r w' => r = .returned (.bool true) ∧ Below W.heap.size W w') :
    Calls Tryz.prog 23 #[.agg #[.string nm, .string sy, .int .i64 d0, .int .i64 d1, .int .i64 d2, .int .i64 d3, .int .i64 d4, .int .i64 d5, .int .i64 d6, .int .i64 d7, .string fn, .string fd, .string on, .string od, .int .i64 tk]] w fun r w' => r = .returned (.bool true) ∧ Below w.heap.size w w' := by
  obtain ⟨V, hV⟩ : ∃ V, V = w.alloc (.cells #[.string nm, .string sy, .int .i64 d0, .int .i64 d1, .int .i64 d2, .int .i64 d3, .int .i64 d4, .int .i64 d5, .int .i64 d6, .int .i64 d7, .string fn, .string fd, .string on, .string od, .int .i64 tk] 30) := ⟨_, rfl⟩
  have HU0 : Hid (OwnU V w.heap.size 30 #[.string nm, .string sy, .int .i64 d0, .int .i64 d1, .int .i64 d2, .int .i64 d3, .int .i64 d4, .int .i64 d5, .int .i64 d6, .int .i64 d7, .string fn, .string fd, .string on, .string od, .int .i64 tk]) := by rw [hV]; exact OwnU.new _ _ _
  have HB0 : Hid (Below w.heap.size w V) := by rw [hV]; exact (Below.refl _ _).alloc (Nat.le_refl _) _
  have HV := hide hV
  have H36 := hide h36; have H37 := hide h37; have H38 := hide h38; have H39 := hide h39; have H40 := hide h40
  clear hV h36 h37 h38 h39 h40
  go_enter Tryz.func23, Tryz.ntmps23
  go_upto_region 1 with fail
  rw [← unhide HV]
  clear HV
  have u0 : V.cell? ⟨w.heap.size, 0, none⟩ = some (.string nm) := (unhide HU0).ub.c 0 _ rfl; have u1 : V.cell? ⟨w.heap.size, 1, none⟩ = some (.string sy) := (unhide HU0).ub.c 1 _ rfl; have u2 : V.cell? ⟨w.heap.size, 2, none⟩ = some (.int .i64 d0) := (unhide HU0).ub.c 2 _ rfl; have u3 : V.cell? ⟨w.heap.size, 3, none⟩ = some (.int .i64 d1) := (unhide HU0).ub.c 3 _ rfl; have u4 : V.cell? ⟨w.heap.size, 4, none⟩ = some (.int .i64 d2) := (unhide HU0).ub.c 4 _ rfl; have u5 : V.cell? ⟨w.heap.size, 5, none⟩ = some (.int .i64 d3) := (unhide HU0).ub.c 5 _ rfl; have u6 : V.cell? ⟨w.heap.size, 6, none⟩ = some (.int .i64 d4) := (unhide HU0).ub.c 6 _ rfl; have u7 : V.cell? ⟨w.heap.size, 7, none⟩ = some (.int .i64 d5) := (unhide HU0).ub.c 7 _ rfl; have u8 : V.cell? ⟨w.heap.size, 8, none⟩ = some (.int .i64 d6) := (unhide HU0).ub.c 8 _ rfl; have u9 : V.cell? ⟨w.heap.size, 9, none⟩ = some (.int .i64 d7) := (unhide HU0).ub.c 9 _ rfl; have u10 : V.cell? ⟨w.heap.size, 10, none⟩ = some (.string fn) := (unhide HU0).ub.c 10 _ rfl; have u11 : V.cell? ⟨w.heap.size, 11, none⟩ = some (.string fd) := (unhide HU0).ub.c 11 _ rfl; have u12 : V.cell? ⟨w.heap.size, 12, none⟩ = some (.string on) := (unhide HU0).ub.c 12 _ rfl; have u13 : V.cell? ⟨w.heap.size, 13, none⟩ = some (.string od) := (unhide HU0).ub.c 13 _ rfl; have u14 : V.cell? ⟨w.heap.size, 14, none⟩ = some (.int .i64 tk) := (unhide HU0).ub.c 14 _ rfl
  go_wp2_with (first
    | (go_at_call 36; go_must (refine (unhide H36 _ (unhide HB0)).mono ?_; rintro e W1 ⟨rfl, hb⟩; have HU1 := hide ((unhide HU0).later hb); have HB1 := hide ((unhide HB0).trans (hb.mono (unhide HB0).size)); clear hb u0 u1 u2 u3 u4 u5 u6 u7 u8 u9 u10 u11 u12 u13 u14; have u0 : W1.cell? ⟨w.heap.size, 0, none⟩ = some (.string nm) := (unhide HU1).ub.c 0 _ rfl; have u1 : W1.cell? ⟨w.heap.size, 1, none⟩ = some (.string sy) := (unhide HU1).ub.c 1 _ rfl; have u2 : W1.cell? ⟨w.heap.size, 2, none⟩ = some (.int .i64 d0) := (unhide HU1).ub.c 2 _ rfl; have u3 : W1.cell? ⟨w.heap.size, 3, none⟩ = some (.int .i64 d1) := (unhide HU1).ub.c 3 _ rfl; have u4 : W1.cell? ⟨w.heap.size, 4, none⟩ = some (.int .i64 d2) := (unhide HU1).ub.c 4 _ rfl; have u5 : W1.cell? ⟨w.heap.size, 5, none⟩ = some (.int .i64 d3) := (unhide HU1).ub.c 5 _ rfl; have u6 : W1.cell? ⟨w.heap.size, 6, none⟩ = some (.int .i64 d4) := (unhide HU1).ub.c 6 _ rfl; have u7 : W1.cell? ⟨w.heap.size, 7, none⟩ = some (.int .i64 d5) := (unhide HU1).ub.c 7 _ rfl; have u8 : W1.cell? ⟨w.heap.size, 8, none⟩ = some (.int .i64 d6) := (unhide HU1).ub.c 8 _ rfl; have u9 : W1.cell? ⟨w.heap.size, 9, none⟩ = some (.int .i64 d7) := (unhide HU1).ub.c 9 _ rfl; have u10 : W1.cell? ⟨w.heap.size, 10, none⟩ = some (.string fn) := (unhide HU1).ub.c 10 _ rfl; have u11 : W1.cell? ⟨w.heap.size, 11, none⟩ = some (.string fd) := (unhide HU1).ub.c 11 _ rfl; have u12 : W1.cell? ⟨w.heap.size, 12, none⟩ = some (.string on) := (unhide HU1).ub.c 12 _ rfl; have u13 : W1.cell? ⟨w.heap.size, 13, none⟩ = some (.string od) := (unhide HU1).ub.c 13 _ rfl; have u14 : W1.cell? ⟨w.heap.size, 14, none⟩ = some (.int .i64 tk) := (unhide HU1).ub.c 14 _ rfl))
    | (go_at_call 37; go_must (refine (unhide H37 _ (unhide HB1)).mono ?_; rintro e W2 ⟨rfl, hb⟩; have HU2 := hide ((unhide HU1).later hb); have HB2 := hide ((unhide HB1).trans (hb.mono (unhide HB1).size)); clear hb u0 u1 u2 u3 u4 u5 u6 u7 u8 u9 u10 u11 u12 u13 u14; have u0 : W2.cell? ⟨w.heap.size, 0, none⟩ = some (.string nm) := (unhide HU2).ub.c 0 _ rfl; have u1 : W2.cell? ⟨w.heap.size, 1, none⟩ = some (.string sy) := (unhide HU2).ub.c 1 _ rfl; have u2 : W2.cell? ⟨w.heap.size, 2, none⟩ = some (.int .i64 d0) := (unhide HU2).ub.c 2 _ rfl; have u3 : W2.cell? ⟨w.heap.size, 3, none⟩ = some (.int .i64 d1) := (unhide HU2).ub.c 3 _ rfl; have u4 : W2.cell? ⟨w.heap.size, 4, none⟩ = some (.int .i64 d2) := (unhide HU2).ub.c 4 _ rfl; have u5 : W2.cell? ⟨w.heap.size, 5, none⟩ = some (.int .i64 d3) := (unhide HU2).ub.c 5 _ rfl; have u6 : W2.cell? ⟨w.heap.size, 6, none⟩ = some (.int .i64 d4) := (unhide HU2).ub.c 6 _ rfl; have u7 : W2.cell? ⟨w.heap.size, 7, none⟩ = some (.int .i64 d5) := (unhide HU2).ub.c 7 _ rfl; have u8 : W2.cell? ⟨w.heap.size, 8, none⟩ = some (.int .i64 d6) := (unhide HU2).ub.c 8 _ rfl; have u9 : W2.cell? ⟨w.heap.size, 9, none⟩ = some (.int .i64 d7) := (unhide HU2).ub.c 9 _ rfl; have u10 : W2.cell? ⟨w.heap.size, 10, none⟩ = some (.string fn) := (unhide HU2).ub.c 10 _ rfl; have u11 : W2.cell? ⟨w.heap.size, 11, none⟩ = some (.string fd) := (unhide HU2).ub.c 11 _ rfl; have u12 : W2.cell? ⟨w.heap.size, 12, none⟩ = some (.string on) := (unhide HU2).ub.c 12 _ rfl; have u13 : W2.cell? ⟨w.heap.size, 13, none⟩ = some (.string od) := (unhide HU2).ub.c 13 _ rfl; have u14 : W2.cell? ⟨w.heap.size, 14, none⟩ = some (.int .i64 tk) := (unhide HU2).ub.c 14 _ rfl))
    | (go_at_call 38; go_must (refine (unhide H38 _ (unhide HB2)).mono ?_; rintro e W3 ⟨rfl, hb⟩; have HU3 := hide ((unhide HU2).later hb); have HB3 := hide ((unhide HB2).trans (hb.mono (unhide HB2).size)); clear hb u0 u1 u2 u3 u4 u5 u6 u7 u8 u9 u10 u11 u12 u13 u14; have u0 : W3.cell? ⟨w.heap.size, 0, none⟩ = some (.string nm) := (unhide HU3).ub.c 0 _ rfl; have u1 : W3.cell? ⟨w.heap.size, 1, none⟩ = some (.string sy) := (unhide HU3).ub.c 1 _ rfl; have u2 : W3.cell? ⟨w.heap.size, 2, none⟩ = some (.int .i64 d0) := (unhide HU3).ub.c 2 _ rfl; have u3 : W3.cell? ⟨w.heap.size, 3, none⟩ = some (.int .i64 d1) := (unhide HU3).ub.c 3 _ rfl; have u4 : W3.cell? ⟨w.heap.size, 4, none⟩ = some (.int .i64 d2) := (unhide HU3).ub.c 4 _ rfl; have u5 : W3.cell? ⟨w.heap.size, 5, none⟩ = some (.int .i64 d3) := (unhide HU3).ub.c 5 _ rfl; have u6 : W3.cell? ⟨w.heap.size, 6, none⟩ = some (.int .i64 d4) := (unhide HU3).ub.c 6 _ rfl; have u7 : W3.cell? ⟨w.heap.size, 7, none⟩ = some (.int .i64 d5) := (unhide HU3).ub.c 7 _ rfl; have u8 : W3.cell? ⟨w.heap.size, 8, none⟩ = some (.int .i64 d6) := (unhide HU3).ub.c 8 _ rfl; have u9 : W3.cell? ⟨w.heap.size, 9, none⟩ = some (.int .i64 d7) := (unhide HU3).ub.c 9 _ rfl; have u10 : W3.cell? ⟨w.heap.size, 10, none⟩ = some (.string fn) := (unhide HU3).ub.c 10 _ rfl; have u11 : W3.cell? ⟨w.heap.size, 11, none⟩ = some (.string fd) := (unhide HU3).ub.c 11 _ rfl; have u12 : W3.cell? ⟨w.heap.size, 12, none⟩ = some (.string on) := (unhide HU3).ub.c 12 _ rfl; have u13 : W3.cell? ⟨w.heap.size, 13, none⟩ = some (.string od) := (unhide HU3).ub.c 13 _ rfl; have u14 : W3.cell? ⟨w.heap.size, 14, none⟩ = some (.int .i64 tk) := (unhide HU3).ub.c 14 _ rfl))
    | (go_at_call 39; go_must (refine (unhide H39 _ (unhide HB3)).mono ?_; rintro e W4 ⟨rfl, hb⟩; have HU4 := hide ((unhide HU3).later hb); have HB4 := hide ((unhide HB3).trans (hb.mono (unhide HB3).size)); clear hb u0 u1 u2 u3 u4 u5 u6 u7 u8 u9 u10 u11 u12 u13 u14; have u0 : W4.cell? ⟨w.heap.size, 0, none⟩ = some (.string nm) := (unhide HU4).ub.c 0 _ rfl; have u1 : W4.cell? ⟨w.heap.size, 1, none⟩ = some (.string sy) := (unhide HU4).ub.c 1 _ rfl; have u2 : W4.cell? ⟨w.heap.size, 2, none⟩ = some (.int .i64 d0) := (unhide HU4).ub.c 2 _ rfl; have u3 : W4.cell? ⟨w.heap.size, 3, none⟩ = some (.int .i64 d1) := (unhide HU4).ub.c 3 _ rfl; have u4 : W4.cell? ⟨w.heap.size, 4, none⟩ = some (.int .i64 d2) := (unhide HU4).ub.c 4 _ rfl; have u5 : W4.cell? ⟨w.heap.size, 5, none⟩ = some (.int .i64 d3) := (unhide HU4).ub.c 5 _ rfl; have u6 : W4.cell? ⟨w.heap.size, 6, none⟩ = some (.int .i64 d4) := (unhide HU4).ub.c 6 _ rfl; have u7 : W4.cell? ⟨w.heap.size, 7, none⟩ = some (.int .i64 d5) := (unhide HU4).ub.c 7 _ rfl; have u8 : W4.cell? ⟨w.heap.size, 8, none⟩ = some (.int .i64 d6) := (unhide HU4).ub.c 8 _ rfl; have u9 : W4.cell? ⟨w.heap.size, 9, none⟩ = some (.int .i64 d7) := (unhide HU4).ub.c 9 _ rfl; have u10 : W4.cell? ⟨w.heap.size, 10, none⟩ = some (.string fn) := (unhide HU4).ub.c 10 _ rfl; have u11 : W4.cell? ⟨w.heap.size, 11, none⟩ = some (.string fd) := (unhide HU4).ub.c 11 _ rfl; have u12 : W4.cell? ⟨w.heap.size, 12, none⟩ = some (.string on) := (unhide HU4).ub.c 12 _ rfl; have u13 : W4.cell? ⟨w.heap.size, 13, none⟩ = some (.string od) := (unhide HU4).ub.c 13 _ rfl; have u14 : W4.cell? ⟨w.heap.size, 14, none⟩ = some (.int .i64 tk) := (unhide HU4).ub.c 14 _ rfl))
    | (go_at_call 40; go_must (refine (unhide H40 _ (unhide HB4)).mono ?_; rintro e W5 ⟨rfl, hb⟩; have HU5 := hide ((unhide HU4).later hb); have HB5 := hide ((unhide HB4).trans (hb.mono (unhide HB4).size)); clear hb u0 u1 u2 u3 u4 u5 u6 u7 u8 u9 u10 u11 u12 u13 u14; have u0 : W5.cell? ⟨w.heap.size, 0, none⟩ = some (.string nm) := (unhide HU5).ub.c 0 _ rfl; have u1 : W5.cell? ⟨w.heap.size, 1, none⟩ = some (.string sy) := (unhide HU5).ub.c 1 _ rfl; have u2 : W5.cell? ⟨w.heap.size, 2, none⟩ = some (.int .i64 d0) := (unhide HU5).ub.c 2 _ rfl; have u3 : W5.cell? ⟨w.heap.size, 3, none⟩ = some (.int .i64 d1) := (unhide HU5).ub.c 3 _ rfl; have u4 : W5.cell? ⟨w.heap.size, 4, none⟩ = some (.int .i64 d2) := (unhide HU5).ub.c 4 _ rfl; have u5 : W5.cell? ⟨w.heap.size, 5, none⟩ = some (.int .i64 d3) := (unhide HU5).ub.c 5 _ rfl; have u6 : W5.cell? ⟨w.heap.size, 6, none⟩ = some (.int .i64 d4) := (unhide HU5).ub.c 6 _ rfl; have u7 : W5.cell? ⟨w.heap.size, 7, none⟩ = some (.int .i64 d5) := (unhide HU5).ub.c 7 _ rfl; have u8 : W5.cell? ⟨w.heap.size, 8, none⟩ = some (.int .i64 d6) := (unhide HU5).ub.c 8 _ rfl; have u9 : W5.cell? ⟨w.heap.size, 9, none⟩ = some (.int .i64 d7) := (unhide HU5).ub.c 9 _ rfl; have u10 : W5.cell? ⟨w.heap.size, 10, none⟩ = some (.string fn) := (unhide HU5).ub.c 10 _ rfl; have u11 : W5.cell? ⟨w.heap.size, 11, none⟩ = some (.string fd) := (unhide HU5).ub.c 11 _ rfl; have u12 : W5.cell? ⟨w.heap.size, 12, none⟩ = some (.string on) := (unhide HU5).ub.c 12 _ rfl; have u13 : W5.cell? ⟨w.heap.size, 13, none⟩ = some (.string od) := (unhide HU5).ub.c 13 _ rfl; have u14 : W5.cell? ⟨w.heap.size, 14, none⟩ = some (.int .i64 tk) := (unhide HU5).ub.c 14 _ rfl)))
  go_ret
  exact ⟨rfl, unhide HB5⟩
end Go.Proofs.YtbjafaojcaafmaaGreatDoor

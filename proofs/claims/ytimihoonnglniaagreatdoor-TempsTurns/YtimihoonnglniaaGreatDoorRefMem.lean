/- Rows of int in memory, for the document's own numbers: limbs of four digits. -/
import Derived.Test.YtimihoonnglniaaGreatDoorRefFind
import Derived.Test.YtimihoonnglniaaGreatDoorShelf
namespace Go.Proofs.YtimihoonnglniaaGreatDoor
open Go.RowKit
set_option maxRecDepth 100000 in
set_option maxHeartbeats 8000000 in
theorem refFind_2s (s : ByteArray) (w : World) (h0 : (s.toList == [107, 101, 108, 118, 105, 110]) = false) (h1 : (s.toList == [75]) = false) (h2 : (s.toList == [114, 97, 110, 107, 105, 110, 101]) = false) (h3 : (s.toList == [194, 176, 82]) = false) (h4 : (s.toList == [99, 101, 108, 115, 105, 117, 115]) = false) (h5 : (s.toList == [194, 176, 67]) = false) (h6 : (s.toList == [102, 97, 104, 114, 101, 110, 104, 101, 105, 116]) = false) (h7 : (s.toList == [194, 176, 70]) = true) :
    Calls Tryz.prog 24 #[.string s] w fun r w' => r = .returned (.tuple #[.agg (uT 2), .bool true]) ∧ Below w.heap.size w w' := by
  have g0 : ([107, 101, 108, 118, 105, 110] == s.toList) = false := BEq.comm.trans h0; have g1 : ([75] == s.toList) = false := BEq.comm.trans h1; have g2 : ([114, 97, 110, 107, 105, 110, 101] == s.toList) = false := BEq.comm.trans h2; have g3 : ([194, 176, 82] == s.toList) = false := BEq.comm.trans h3; have g4 : ([99, 101, 108, 115, 105, 117, 115] == s.toList) = false := BEq.comm.trans h4; have g5 : ([194, 176, 67] == s.toList) = false := BEq.comm.trans h5; have g6 : ([102, 97, 104, 114, 101, 110, 104, 101, 105, 116] == s.toList) = false := BEq.comm.trans h6; have g7 : ([194, 176, 70] == s.toList) = true := BEq.comm.trans h7
  obtain ⟨V, hV⟩ : ∃ V, V = w.alloc (.cells #[.string ⟨#[]⟩, .string ⟨#[]⟩, .int .i64 0, .int .i64 0, .int .i64 0, .int .i64 0, .int .i64 0, .int .i64 0, .int .i64 0, .int .i64 0, .string ⟨#[]⟩, .string ⟨#[]⟩, .string ⟨#[]⟩, .string ⟨#[]⟩, .int .i64 0] 56) := ⟨_, rfl⟩
  have HR : Hid (OwnU V w.heap.size 56 #[.string ⟨#[]⟩, .string ⟨#[]⟩, .int .i64 0, .int .i64 0, .int .i64 0, .int .i64 0, .int .i64 0, .int .i64 0, .int .i64 0, .int .i64 0, .string ⟨#[]⟩, .string ⟨#[]⟩, .string ⟨#[]⟩, .string ⟨#[]⟩, .int .i64 0]) := by rw [hV]; exact OwnU.new _ _ _
  have HB : Hid (Below w.heap.size w V) := by rw [hV]; exact (Below.refl _ _).alloc (Nat.le_refl _) _
  have HV := hide hV
  clear hV
  go_enter Tryz.func24, Tryz.ntmps24
  go_upto_region 1 with fail
  rw [← unhide HV]
  clear HV
  go_upto_region 3 with fail
  go_wp2_with (go_at_call 49; refine (refUnits _).mono ?_; rintro e w1 ⟨W, rfl, rfl, hb⟩; have HU := hide (UB.new W uAll 56); have HBU : Hid (Below V.heap.size V (W.alloc (.cells uAll 56))) := hb.alloc hb.size _)
  obtain ⟨gU, hgU⟩ : ∃ gU, gU = W.heap.size := ⟨_, rfl⟩
  obtain ⟨A, hA⟩ : ∃ A, A = W.alloc (.cells uAll 56) := ⟨_, rfl⟩
  rw [← hA, ← hgU] at HU ⊢
  rw [← hA] at HBU
  clear hA hgU hb
  have HRA := hide ((unhide HR).later (unhide HBU)); have HBA := hide ((unhide HB).trans ((unhide HBU).mono (unhide HB).size))
  have hne : ¬ gU = A.heap.size := Nat.ne_of_lt (unhide HU).lt
  clear HR HB HBU
  have m0 : A.cell? ⟨gU, 0, none⟩ = some (.string ⟨#[114, 97, 110, 107, 105, 110, 101]⟩) := (unhide HU).c 0 _ rfl; have m1 : A.cell? ⟨gU, 1, none⟩ = some (.string ⟨#[194, 176, 82]⟩) := (unhide HU).c 1 _ rfl; have m2 : A.cell? ⟨gU, 2, none⟩ = some (.int .i64 0) := (unhide HU).c 2 _ rfl; have m3 : A.cell? ⟨gU, 3, none⟩ = some (.int .i64 0) := (unhide HU).c 3 _ rfl; have m4 : A.cell? ⟨gU, 4, none⟩ = some (.int .i64 0) := (unhide HU).c 4 _ rfl; have m5 : A.cell? ⟨gU, 5, none⟩ = some (.int .i64 0) := (unhide HU).c 5 _ rfl; have m6 : A.cell? ⟨gU, 6, none⟩ = some (.int .i64 1) := (unhide HU).c 6 _ rfl; have m7 : A.cell? ⟨gU, 7, none⟩ = some (.int .i64 0) := (unhide HU).c 7 _ rfl; have m8 : A.cell? ⟨gU, 8, none⟩ = some (.int .i64 0) := (unhide HU).c 8 _ rfl; have m9 : A.cell? ⟨gU, 9, none⟩ = some (.int .i64 0) := (unhide HU).c 9 _ rfl; have m10 : A.cell? ⟨gU, 10, none⟩ = some (.string ⟨#[53]⟩) := (unhide HU).c 10 _ rfl; have m11 : A.cell? ⟨gU, 11, none⟩ = some (.string ⟨#[57]⟩) := (unhide HU).c 11 _ rfl; have m12 : A.cell? ⟨gU, 12, none⟩ = some (.string ⟨#[48]⟩) := (unhide HU).c 12 _ rfl; have m13 : A.cell? ⟨gU, 13, none⟩ = some (.string ⟨#[49]⟩) := (unhide HU).c 13 _ rfl; have m14 : A.cell? ⟨gU, 14, none⟩ = some (.int .i64 0) := (unhide HU).c 14 _ rfl; have m15 : A.cell? ⟨gU, 15, none⟩ = some (.string ⟨#[99, 101, 108, 115, 105, 117, 115]⟩) := (unhide HU).c 15 _ rfl; have m16 : A.cell? ⟨gU, 16, none⟩ = some (.string ⟨#[194, 176, 67]⟩) := (unhide HU).c 16 _ rfl; have m17 : A.cell? ⟨gU, 17, none⟩ = some (.int .i64 0) := (unhide HU).c 17 _ rfl; have m18 : A.cell? ⟨gU, 18, none⟩ = some (.int .i64 0) := (unhide HU).c 18 _ rfl; have m19 : A.cell? ⟨gU, 19, none⟩ = some (.int .i64 0) := (unhide HU).c 19 _ rfl; have m20 : A.cell? ⟨gU, 20, none⟩ = some (.int .i64 0) := (unhide HU).c 20 _ rfl; have m21 : A.cell? ⟨gU, 21, none⟩ = some (.int .i64 1) := (unhide HU).c 21 _ rfl; have m22 : A.cell? ⟨gU, 22, none⟩ = some (.int .i64 0) := (unhide HU).c 22 _ rfl; have m23 : A.cell? ⟨gU, 23, none⟩ = some (.int .i64 0) := (unhide HU).c 23 _ rfl; have m24 : A.cell? ⟨gU, 24, none⟩ = some (.int .i64 0) := (unhide HU).c 24 _ rfl; have m25 : A.cell? ⟨gU, 25, none⟩ = some (.string ⟨#[49]⟩) := (unhide HU).c 25 _ rfl; have m26 : A.cell? ⟨gU, 26, none⟩ = some (.string ⟨#[49]⟩) := (unhide HU).c 26 _ rfl; have m27 : A.cell? ⟨gU, 27, none⟩ = some (.string ⟨#[53, 52, 54, 51]⟩) := (unhide HU).c 27 _ rfl; have m28 : A.cell? ⟨gU, 28, none⟩ = some (.string ⟨#[50, 48]⟩) := (unhide HU).c 28 _ rfl; have m29 : A.cell? ⟨gU, 29, none⟩ = some (.int .i64 0) := (unhide HU).c 29 _ rfl; have m30 : A.cell? ⟨gU, 30, none⟩ = some (.string ⟨#[102, 97, 104, 114, 101, 110, 104, 101, 105, 116]⟩) := (unhide HU).c 30 _ rfl; have m31 : A.cell? ⟨gU, 31, none⟩ = some (.string ⟨#[194, 176, 70]⟩) := (unhide HU).c 31 _ rfl; have m32 : A.cell? ⟨gU, 32, none⟩ = some (.int .i64 0) := (unhide HU).c 32 _ rfl; have m33 : A.cell? ⟨gU, 33, none⟩ = some (.int .i64 0) := (unhide HU).c 33 _ rfl; have m34 : A.cell? ⟨gU, 34, none⟩ = some (.int .i64 0) := (unhide HU).c 34 _ rfl; have m35 : A.cell? ⟨gU, 35, none⟩ = some (.int .i64 0) := (unhide HU).c 35 _ rfl; have m36 : A.cell? ⟨gU, 36, none⟩ = some (.int .i64 1) := (unhide HU).c 36 _ rfl; have m37 : A.cell? ⟨gU, 37, none⟩ = some (.int .i64 0) := (unhide HU).c 37 _ rfl; have m38 : A.cell? ⟨gU, 38, none⟩ = some (.int .i64 0) := (unhide HU).c 38 _ rfl; have m39 : A.cell? ⟨gU, 39, none⟩ = some (.int .i64 0) := (unhide HU).c 39 _ rfl; have m40 : A.cell? ⟨gU, 40, none⟩ = some (.string ⟨#[53]⟩) := (unhide HU).c 40 _ rfl; have m41 : A.cell? ⟨gU, 41, none⟩ = some (.string ⟨#[57]⟩) := (unhide HU).c 41 _ rfl; have m42 : A.cell? ⟨gU, 42, none⟩ = some (.string ⟨#[52, 53, 57, 54, 55]⟩) := (unhide HU).c 42 _ rfl; have m43 : A.cell? ⟨gU, 43, none⟩ = some (.string ⟨#[49, 56, 48]⟩) := (unhide HU).c 43 _ rfl; have m44 : A.cell? ⟨gU, 44, none⟩ = some (.int .i64 0) := (unhide HU).c 44 _ rfl
  have hlt := (unhide HU).lt
  have hlr := (unhide HRA).lt
  refine wp_loop_rounds 4 ?_
  repeat any_goals (rw [rounds_succ]; go_wp2_with (refine storeU rfl (.tmp 2) (.tmp 32) rfl w.heap.size #[.string ⟨#[]⟩, .string ⟨#[]⟩, .int .i64 0, .int .i64 0, .int .i64 0, .int .i64 0, .int .i64 0, .int .i64 0, .int .i64 0, .int .i64 0, .string ⟨#[]⟩, .string ⟨#[]⟩, .string ⟨#[]⟩, .string ⟨#[]⟩, .int .i64 0] #[.string ⟨#[102, 97, 104, 114, 101, 110, 104, 101, 105, 116]⟩, .string ⟨#[194, 176, 70]⟩, .int .i64 0, .int .i64 0, .int .i64 0, .int .i64 0, .int .i64 1, .int .i64 0, .int .i64 0, .int .i64 0, .string ⟨#[53]⟩, .string ⟨#[57]⟩, .string ⟨#[52, 53, 57, 54, 55]⟩, .string ⟨#[49, 56, 48]⟩, .int .i64 0] rfl rfl rfl rfl (OwnU.alloc (OwnU.alloc (OwnU.alloc (unhide HRA) _) _) _) (by kernel_rfl) ?_))
  have hAX : Below A.heap.size A (((A.alloc (.cells #[.string ⟨#[114, 97, 110, 107, 105, 110, 101]⟩, .string ⟨#[194, 176, 82]⟩, .int .i64 0, .int .i64 0, .int .i64 0, .int .i64 0, .int .i64 1, .int .i64 0, .int .i64 0, .int .i64 0, .string ⟨#[53]⟩, .string ⟨#[57]⟩, .string ⟨#[48]⟩, .string ⟨#[49]⟩, .int .i64 0] 56)).alloc (.cells #[.string ⟨#[99, 101, 108, 115, 105, 117, 115]⟩, .string ⟨#[194, 176, 67]⟩, .int .i64 0, .int .i64 0, .int .i64 0, .int .i64 0, .int .i64 1, .int .i64 0, .int .i64 0, .int .i64 0, .string ⟨#[49]⟩, .string ⟨#[49]⟩, .string ⟨#[53, 52, 54, 51]⟩, .string ⟨#[50, 48]⟩, .int .i64 0] 56)).alloc (.cells #[.string ⟨#[102, 97, 104, 114, 101, 110, 104, 101, 105, 116]⟩, .string ⟨#[194, 176, 70]⟩, .int .i64 0, .int .i64 0, .int .i64 0, .int .i64 0, .int .i64 1, .int .i64 0, .int .i64 0, .int .i64 0, .string ⟨#[53]⟩, .string ⟨#[57]⟩, .string ⟨#[52, 53, 57, 54, 55]⟩, .string ⟨#[49, 56, 48]⟩, .int .i64 0] 56)) := ((((Below.refl A.heap.size A).alloc (by simp <;> omega) _).alloc (by simp <;> omega) _).alloc (by simp <;> omega) _)
  have hS : OwnU (World.setRow (((A.alloc (.cells #[.string ⟨#[114, 97, 110, 107, 105, 110, 101]⟩, .string ⟨#[194, 176, 82]⟩, .int .i64 0, .int .i64 0, .int .i64 0, .int .i64 0, .int .i64 1, .int .i64 0, .int .i64 0, .int .i64 0, .string ⟨#[53]⟩, .string ⟨#[57]⟩, .string ⟨#[48]⟩, .string ⟨#[49]⟩, .int .i64 0] 56)).alloc (.cells #[.string ⟨#[99, 101, 108, 115, 105, 117, 115]⟩, .string ⟨#[194, 176, 67]⟩, .int .i64 0, .int .i64 0, .int .i64 0, .int .i64 0, .int .i64 1, .int .i64 0, .int .i64 0, .int .i64 0, .string ⟨#[49]⟩, .string ⟨#[49]⟩, .string ⟨#[53, 52, 54, 51]⟩, .string ⟨#[50, 48]⟩, .int .i64 0] 56)).alloc (.cells #[.string ⟨#[102, 97, 104, 114, 101, 110, 104, 101, 105, 116]⟩, .string ⟨#[194, 176, 70]⟩, .int .i64 0, .int .i64 0, .int .i64 0, .int .i64 0, .int .i64 1, .int .i64 0, .int .i64 0, .int .i64 0, .string ⟨#[53]⟩, .string ⟨#[57]⟩, .string ⟨#[52, 53, 57, 54, 55]⟩, .string ⟨#[49, 56, 48]⟩, .int .i64 0] 56)) w.heap.size #[.string ⟨#[102, 97, 104, 114, 101, 110, 104, 101, 105, 116]⟩, .string ⟨#[194, 176, 70]⟩, .int .i64 0, .int .i64 0, .int .i64 0, .int .i64 0, .int .i64 1, .int .i64 0, .int .i64 0, .int .i64 0, .string ⟨#[53]⟩, .string ⟨#[57]⟩, .string ⟨#[52, 53, 57, 54, 55]⟩, .string ⟨#[49, 56, 48]⟩, .int .i64 0]) w.heap.size 56 #[.string ⟨#[102, 97, 104, 114, 101, 110, 104, 101, 105, 116]⟩, .string ⟨#[194, 176, 70]⟩, .int .i64 0, .int .i64 0, .int .i64 0, .int .i64 0, .int .i64 1, .int .i64 0, .int .i64 0, .int .i64 0, .string ⟨#[53]⟩, .string ⟨#[57]⟩, .string ⟨#[52, 53, 57, 54, 55]⟩, .string ⟨#[49, 56, 48]⟩, .int .i64 0] := OwnU.setRow ((unhide HRA).later hAX) _
  refine bodyPost_ret (v := .tuple #[.agg #[.string ⟨#[102, 97, 104, 114, 101, 110, 104, 101, 105, 116]⟩, .string ⟨#[194, 176, 70]⟩, .int .i64 0, .int .i64 0, .int .i64 0, .int .i64 0, .int .i64 1, .int .i64 0, .int .i64 0, .int .i64 0, .string ⟨#[53]⟩, .string ⟨#[57]⟩, .string ⟨#[52, 53, 57, 54, 55]⟩, .string ⟨#[49, 56, 48]⟩, .int .i64 0], .bool true]) (w := World.setRow (((A.alloc (.cells #[.string ⟨#[114, 97, 110, 107, 105, 110, 101]⟩, .string ⟨#[194, 176, 82]⟩, .int .i64 0, .int .i64 0, .int .i64 0, .int .i64 0, .int .i64 1, .int .i64 0, .int .i64 0, .int .i64 0, .string ⟨#[53]⟩, .string ⟨#[57]⟩, .string ⟨#[48]⟩, .string ⟨#[49]⟩, .int .i64 0] 56)).alloc (.cells #[.string ⟨#[99, 101, 108, 115, 105, 117, 115]⟩, .string ⟨#[194, 176, 67]⟩, .int .i64 0, .int .i64 0, .int .i64 0, .int .i64 0, .int .i64 1, .int .i64 0, .int .i64 0, .int .i64 0, .string ⟨#[49]⟩, .string ⟨#[49]⟩, .string ⟨#[53, 52, 54, 51]⟩, .string ⟨#[50, 48]⟩, .int .i64 0] 56)).alloc (.cells #[.string ⟨#[102, 97, 104, 114, 101, 110, 104, 101, 105, 116]⟩, .string ⟨#[194, 176, 70]⟩, .int .i64 0, .int .i64 0, .int .i64 0, .int .i64 0, .int .i64 1, .int .i64 0, .int .i64 0, .int .i64 0, .string ⟨#[53]⟩, .string ⟨#[57]⟩, .string ⟨#[52, 53, 57, 54, 55]⟩, .string ⟨#[49, 56, 48]⟩, .int .i64 0] 56)) w.heap.size #[.string ⟨#[102, 97, 104, 114, 101, 110, 104, 101, 105, 116]⟩, .string ⟨#[194, 176, 70]⟩, .int .i64 0, .int .i64 0, .int .i64 0, .int .i64 0, .int .i64 1, .int .i64 0, .int .i64 0, .int .i64 0, .string ⟨#[53]⟩, .string ⟨#[57]⟩, .string ⟨#[52, 53, 57, 54, 55]⟩, .string ⟨#[49, 56, 48]⟩, .int .i64 0]) ?_ rfl ?_
  · exact res24 _ _ w.heap.size _ rfl rfl hS
  · exact ⟨rfl, below_setRow ((unhide HBA).trans (hAX.mono (unhide HBA).size)) (Nat.le_refl _) _⟩
end Go.Proofs.YtimihoonnglniaaGreatDoor

namespace Go.Proofs.YtimihoonnglniaaGreatDoor
open Go.RowKit
set_option maxRecDepth 100000 in
set_option maxHeartbeats 8000000 in
theorem refFind_no (s : ByteArray) (w : World) (h0 : (s.toList == [107, 101, 108, 118, 105, 110]) = false) (h1 : (s.toList == [75]) = false) (h2 : (s.toList == [114, 97, 110, 107, 105, 110, 101]) = false) (h3 : (s.toList == [194, 176, 82]) = false) (h4 : (s.toList == [99, 101, 108, 115, 105, 117, 115]) = false) (h5 : (s.toList == [194, 176, 67]) = false) (h6 : (s.toList == [102, 97, 104, 114, 101, 110, 104, 101, 105, 116]) = false) (h7 : (s.toList == [194, 176, 70]) = false) :
    Calls Tryz.prog 24 #[.string s] w fun r w' => r = .returned (.tuple #[.agg zU, .bool false]) ∧ Below w.heap.size w w' := by
  have g0 : ([107, 101, 108, 118, 105, 110] == s.toList) = false := BEq.comm.trans h0; have g1 : ([75] == s.toList) = false := BEq.comm.trans h1; have g2 : ([114, 97, 110, 107, 105, 110, 101] == s.toList) = false := BEq.comm.trans h2; have g3 : ([194, 176, 82] == s.toList) = false := BEq.comm.trans h3; have g4 : ([99, 101, 108, 115, 105, 117, 115] == s.toList) = false := BEq.comm.trans h4; have g5 : ([194, 176, 67] == s.toList) = false := BEq.comm.trans h5; have g6 : ([102, 97, 104, 114, 101, 110, 104, 101, 105, 116] == s.toList) = false := BEq.comm.trans h6; have g7 : ([194, 176, 70] == s.toList) = false := BEq.comm.trans h7
  obtain ⟨V, hV⟩ : ∃ V, V = w.alloc (.cells #[.string ⟨#[]⟩, .string ⟨#[]⟩, .int .i64 0, .int .i64 0, .int .i64 0, .int .i64 0, .int .i64 0, .int .i64 0, .int .i64 0, .int .i64 0, .string ⟨#[]⟩, .string ⟨#[]⟩, .string ⟨#[]⟩, .string ⟨#[]⟩, .int .i64 0] 56) := ⟨_, rfl⟩
  have HR : Hid (OwnU V w.heap.size 56 #[.string ⟨#[]⟩, .string ⟨#[]⟩, .int .i64 0, .int .i64 0, .int .i64 0, .int .i64 0, .int .i64 0, .int .i64 0, .int .i64 0, .int .i64 0, .string ⟨#[]⟩, .string ⟨#[]⟩, .string ⟨#[]⟩, .string ⟨#[]⟩, .int .i64 0]) := by rw [hV]; exact OwnU.new _ _ _
  have HB : Hid (Below w.heap.size w V) := by rw [hV]; exact (Below.refl _ _).alloc (Nat.le_refl _) _
  have HV := hide hV
  clear hV
  go_enter Tryz.func24, Tryz.ntmps24
  go_upto_region 1 with fail
  rw [← unhide HV]
  clear HV
  go_upto_region 3 with fail
  go_wp2_with (go_at_call 49; refine (refUnits _).mono ?_; rintro e w1 ⟨W, rfl, rfl, hb⟩; have HU := hide (UB.new W uAll 56); have HBU : Hid (Below V.heap.size V (W.alloc (.cells uAll 56))) := hb.alloc hb.size _)
  obtain ⟨gU, hgU⟩ : ∃ gU, gU = W.heap.size := ⟨_, rfl⟩
  obtain ⟨A, hA⟩ : ∃ A, A = W.alloc (.cells uAll 56) := ⟨_, rfl⟩
  rw [← hA, ← hgU] at HU ⊢
  rw [← hA] at HBU
  clear hA hgU hb
  have HRA := hide ((unhide HR).later (unhide HBU)); have HBA := hide ((unhide HB).trans ((unhide HBU).mono (unhide HB).size))
  have hne : ¬ gU = A.heap.size := Nat.ne_of_lt (unhide HU).lt
  clear HR HB HBU
  have m0 : A.cell? ⟨gU, 0, none⟩ = some (.string ⟨#[114, 97, 110, 107, 105, 110, 101]⟩) := (unhide HU).c 0 _ rfl; have m1 : A.cell? ⟨gU, 1, none⟩ = some (.string ⟨#[194, 176, 82]⟩) := (unhide HU).c 1 _ rfl; have m2 : A.cell? ⟨gU, 2, none⟩ = some (.int .i64 0) := (unhide HU).c 2 _ rfl; have m3 : A.cell? ⟨gU, 3, none⟩ = some (.int .i64 0) := (unhide HU).c 3 _ rfl; have m4 : A.cell? ⟨gU, 4, none⟩ = some (.int .i64 0) := (unhide HU).c 4 _ rfl; have m5 : A.cell? ⟨gU, 5, none⟩ = some (.int .i64 0) := (unhide HU).c 5 _ rfl; have m6 : A.cell? ⟨gU, 6, none⟩ = some (.int .i64 1) := (unhide HU).c 6 _ rfl; have m7 : A.cell? ⟨gU, 7, none⟩ = some (.int .i64 0) := (unhide HU).c 7 _ rfl; have m8 : A.cell? ⟨gU, 8, none⟩ = some (.int .i64 0) := (unhide HU).c 8 _ rfl; have m9 : A.cell? ⟨gU, 9, none⟩ = some (.int .i64 0) := (unhide HU).c 9 _ rfl; have m10 : A.cell? ⟨gU, 10, none⟩ = some (.string ⟨#[53]⟩) := (unhide HU).c 10 _ rfl; have m11 : A.cell? ⟨gU, 11, none⟩ = some (.string ⟨#[57]⟩) := (unhide HU).c 11 _ rfl; have m12 : A.cell? ⟨gU, 12, none⟩ = some (.string ⟨#[48]⟩) := (unhide HU).c 12 _ rfl; have m13 : A.cell? ⟨gU, 13, none⟩ = some (.string ⟨#[49]⟩) := (unhide HU).c 13 _ rfl; have m14 : A.cell? ⟨gU, 14, none⟩ = some (.int .i64 0) := (unhide HU).c 14 _ rfl; have m15 : A.cell? ⟨gU, 15, none⟩ = some (.string ⟨#[99, 101, 108, 115, 105, 117, 115]⟩) := (unhide HU).c 15 _ rfl; have m16 : A.cell? ⟨gU, 16, none⟩ = some (.string ⟨#[194, 176, 67]⟩) := (unhide HU).c 16 _ rfl; have m17 : A.cell? ⟨gU, 17, none⟩ = some (.int .i64 0) := (unhide HU).c 17 _ rfl; have m18 : A.cell? ⟨gU, 18, none⟩ = some (.int .i64 0) := (unhide HU).c 18 _ rfl; have m19 : A.cell? ⟨gU, 19, none⟩ = some (.int .i64 0) := (unhide HU).c 19 _ rfl; have m20 : A.cell? ⟨gU, 20, none⟩ = some (.int .i64 0) := (unhide HU).c 20 _ rfl; have m21 : A.cell? ⟨gU, 21, none⟩ = some (.int .i64 1) := (unhide HU).c 21 _ rfl; have m22 : A.cell? ⟨gU, 22, none⟩ = some (.int .i64 0) := (unhide HU).c 22 _ rfl; have m23 : A.cell? ⟨gU, 23, none⟩ = some (.int .i64 0) := (unhide HU).c 23 _ rfl; have m24 : A.cell? ⟨gU, 24, none⟩ = some (.int .i64 0) := (unhide HU).c 24 _ rfl; have m25 : A.cell? ⟨gU, 25, none⟩ = some (.string ⟨#[49]⟩) := (unhide HU).c 25 _ rfl; have m26 : A.cell? ⟨gU, 26, none⟩ = some (.string ⟨#[49]⟩) := (unhide HU).c 26 _ rfl; have m27 : A.cell? ⟨gU, 27, none⟩ = some (.string ⟨#[53, 52, 54, 51]⟩) := (unhide HU).c 27 _ rfl; have m28 : A.cell? ⟨gU, 28, none⟩ = some (.string ⟨#[50, 48]⟩) := (unhide HU).c 28 _ rfl; have m29 : A.cell? ⟨gU, 29, none⟩ = some (.int .i64 0) := (unhide HU).c 29 _ rfl; have m30 : A.cell? ⟨gU, 30, none⟩ = some (.string ⟨#[102, 97, 104, 114, 101, 110, 104, 101, 105, 116]⟩) := (unhide HU).c 30 _ rfl; have m31 : A.cell? ⟨gU, 31, none⟩ = some (.string ⟨#[194, 176, 70]⟩) := (unhide HU).c 31 _ rfl; have m32 : A.cell? ⟨gU, 32, none⟩ = some (.int .i64 0) := (unhide HU).c 32 _ rfl; have m33 : A.cell? ⟨gU, 33, none⟩ = some (.int .i64 0) := (unhide HU).c 33 _ rfl; have m34 : A.cell? ⟨gU, 34, none⟩ = some (.int .i64 0) := (unhide HU).c 34 _ rfl; have m35 : A.cell? ⟨gU, 35, none⟩ = some (.int .i64 0) := (unhide HU).c 35 _ rfl; have m36 : A.cell? ⟨gU, 36, none⟩ = some (.int .i64 1) := (unhide HU).c 36 _ rfl; have m37 : A.cell? ⟨gU, 37, none⟩ = some (.int .i64 0) := (unhide HU).c 37 _ rfl; have m38 : A.cell? ⟨gU, 38, none⟩ = some (.int .i64 0) := (unhide HU).c 38 _ rfl; have m39 : A.cell? ⟨gU, 39, none⟩ = some (.int .i64 0) := (unhide HU).c 39 _ rfl; have m40 : A.cell? ⟨gU, 40, none⟩ = some (.string ⟨#[53]⟩) := (unhide HU).c 40 _ rfl; have m41 : A.cell? ⟨gU, 41, none⟩ = some (.string ⟨#[57]⟩) := (unhide HU).c 41 _ rfl; have m42 : A.cell? ⟨gU, 42, none⟩ = some (.string ⟨#[52, 53, 57, 54, 55]⟩) := (unhide HU).c 42 _ rfl; have m43 : A.cell? ⟨gU, 43, none⟩ = some (.string ⟨#[49, 56, 48]⟩) := (unhide HU).c 43 _ rfl; have m44 : A.cell? ⟨gU, 44, none⟩ = some (.int .i64 0) := (unhide HU).c 44 _ rfl
  have hlt := (unhide HU).lt
  have hlr := (unhide HRA).lt
  refine wp_loop_rounds 4 ?_
  repeat any_goals (rw [rounds_succ]; go_wp2_with (refine storeU rfl (.tmp 2) (.tmp 34) rfl w.heap.size #[.string ⟨#[]⟩, .string ⟨#[]⟩, .int .i64 0, .int .i64 0, .int .i64 0, .int .i64 0, .int .i64 0, .int .i64 0, .int .i64 0, .int .i64 0, .string ⟨#[]⟩, .string ⟨#[]⟩, .string ⟨#[]⟩, .string ⟨#[]⟩, .int .i64 0] #[.string ⟨#[]⟩, .string ⟨#[]⟩, .int .i64 0, .int .i64 0, .int .i64 0, .int .i64 0, .int .i64 0, .int .i64 0, .int .i64 0, .int .i64 0, .string ⟨#[]⟩, .string ⟨#[]⟩, .string ⟨#[]⟩, .string ⟨#[]⟩, .int .i64 0] rfl rfl rfl rfl (OwnU.alloc (OwnU.alloc (OwnU.alloc (unhide HRA) _) _) _) (by kernel_rfl) ?_))
  have hAX : Below A.heap.size A (((A.alloc (.cells #[.string ⟨#[114, 97, 110, 107, 105, 110, 101]⟩, .string ⟨#[194, 176, 82]⟩, .int .i64 0, .int .i64 0, .int .i64 0, .int .i64 0, .int .i64 1, .int .i64 0, .int .i64 0, .int .i64 0, .string ⟨#[53]⟩, .string ⟨#[57]⟩, .string ⟨#[48]⟩, .string ⟨#[49]⟩, .int .i64 0] 56)).alloc (.cells #[.string ⟨#[99, 101, 108, 115, 105, 117, 115]⟩, .string ⟨#[194, 176, 67]⟩, .int .i64 0, .int .i64 0, .int .i64 0, .int .i64 0, .int .i64 1, .int .i64 0, .int .i64 0, .int .i64 0, .string ⟨#[49]⟩, .string ⟨#[49]⟩, .string ⟨#[53, 52, 54, 51]⟩, .string ⟨#[50, 48]⟩, .int .i64 0] 56)).alloc (.cells #[.string ⟨#[102, 97, 104, 114, 101, 110, 104, 101, 105, 116]⟩, .string ⟨#[194, 176, 70]⟩, .int .i64 0, .int .i64 0, .int .i64 0, .int .i64 0, .int .i64 1, .int .i64 0, .int .i64 0, .int .i64 0, .string ⟨#[53]⟩, .string ⟨#[57]⟩, .string ⟨#[52, 53, 57, 54, 55]⟩, .string ⟨#[49, 56, 48]⟩, .int .i64 0] 56)) := ((((Below.refl A.heap.size A).alloc (by simp <;> omega) _).alloc (by simp <;> omega) _).alloc (by simp <;> omega) _)
  have hS : OwnU (World.setRow (((A.alloc (.cells #[.string ⟨#[114, 97, 110, 107, 105, 110, 101]⟩, .string ⟨#[194, 176, 82]⟩, .int .i64 0, .int .i64 0, .int .i64 0, .int .i64 0, .int .i64 1, .int .i64 0, .int .i64 0, .int .i64 0, .string ⟨#[53]⟩, .string ⟨#[57]⟩, .string ⟨#[48]⟩, .string ⟨#[49]⟩, .int .i64 0] 56)).alloc (.cells #[.string ⟨#[99, 101, 108, 115, 105, 117, 115]⟩, .string ⟨#[194, 176, 67]⟩, .int .i64 0, .int .i64 0, .int .i64 0, .int .i64 0, .int .i64 1, .int .i64 0, .int .i64 0, .int .i64 0, .string ⟨#[49]⟩, .string ⟨#[49]⟩, .string ⟨#[53, 52, 54, 51]⟩, .string ⟨#[50, 48]⟩, .int .i64 0] 56)).alloc (.cells #[.string ⟨#[102, 97, 104, 114, 101, 110, 104, 101, 105, 116]⟩, .string ⟨#[194, 176, 70]⟩, .int .i64 0, .int .i64 0, .int .i64 0, .int .i64 0, .int .i64 1, .int .i64 0, .int .i64 0, .int .i64 0, .string ⟨#[53]⟩, .string ⟨#[57]⟩, .string ⟨#[52, 53, 57, 54, 55]⟩, .string ⟨#[49, 56, 48]⟩, .int .i64 0] 56)) w.heap.size #[.string ⟨#[]⟩, .string ⟨#[]⟩, .int .i64 0, .int .i64 0, .int .i64 0, .int .i64 0, .int .i64 0, .int .i64 0, .int .i64 0, .int .i64 0, .string ⟨#[]⟩, .string ⟨#[]⟩, .string ⟨#[]⟩, .string ⟨#[]⟩, .int .i64 0]) w.heap.size 56 #[.string ⟨#[]⟩, .string ⟨#[]⟩, .int .i64 0, .int .i64 0, .int .i64 0, .int .i64 0, .int .i64 0, .int .i64 0, .int .i64 0, .int .i64 0, .string ⟨#[]⟩, .string ⟨#[]⟩, .string ⟨#[]⟩, .string ⟨#[]⟩, .int .i64 0] := OwnU.setRow ((unhide HRA).later hAX) _
  refine bodyPost_ret (v := .tuple #[.agg #[.string ⟨#[]⟩, .string ⟨#[]⟩, .int .i64 0, .int .i64 0, .int .i64 0, .int .i64 0, .int .i64 0, .int .i64 0, .int .i64 0, .int .i64 0, .string ⟨#[]⟩, .string ⟨#[]⟩, .string ⟨#[]⟩, .string ⟨#[]⟩, .int .i64 0], .bool false]) (w := World.setRow (((A.alloc (.cells #[.string ⟨#[114, 97, 110, 107, 105, 110, 101]⟩, .string ⟨#[194, 176, 82]⟩, .int .i64 0, .int .i64 0, .int .i64 0, .int .i64 0, .int .i64 1, .int .i64 0, .int .i64 0, .int .i64 0, .string ⟨#[53]⟩, .string ⟨#[57]⟩, .string ⟨#[48]⟩, .string ⟨#[49]⟩, .int .i64 0] 56)).alloc (.cells #[.string ⟨#[99, 101, 108, 115, 105, 117, 115]⟩, .string ⟨#[194, 176, 67]⟩, .int .i64 0, .int .i64 0, .int .i64 0, .int .i64 0, .int .i64 1, .int .i64 0, .int .i64 0, .int .i64 0, .string ⟨#[49]⟩, .string ⟨#[49]⟩, .string ⟨#[53, 52, 54, 51]⟩, .string ⟨#[50, 48]⟩, .int .i64 0] 56)).alloc (.cells #[.string ⟨#[102, 97, 104, 114, 101, 110, 104, 101, 105, 116]⟩, .string ⟨#[194, 176, 70]⟩, .int .i64 0, .int .i64 0, .int .i64 0, .int .i64 0, .int .i64 1, .int .i64 0, .int .i64 0, .int .i64 0, .string ⟨#[53]⟩, .string ⟨#[57]⟩, .string ⟨#[52, 53, 57, 54, 55]⟩, .string ⟨#[49, 56, 48]⟩, .int .i64 0] 56)) w.heap.size #[.string ⟨#[]⟩, .string ⟨#[]⟩, .int .i64 0, .int .i64 0, .int .i64 0, .int .i64 0, .int .i64 0, .int .i64 0, .int .i64 0, .int .i64 0, .string ⟨#[]⟩, .string ⟨#[]⟩, .string ⟨#[]⟩, .string ⟨#[]⟩, .int .i64 0]) ?_ rfl ?_
  · exact res24 _ _ w.heap.size _ rfl rfl hS
  · exact ⟨rfl, below_setRow ((unhide HBA).trans (hAX.mono (unhide HBA).size)) (Nat.le_refl _) _⟩
end Go.Proofs.YtimihoonnglniaaGreatDoor

namespace Cub
theorem pow4 (m : Nat) : 10 ^ (4 * m) = 10000 ^ m := by rw [Nat.pow_mul]
theorem dval_cut4 (l : List UInt8) (m e f : Nat) (he : e + 4 * m = l.length) (hf : f ≤ e) :
    dval (l.drop f) = dval (l.drop e) + 10000 ^ m * dval ((l.drop f).take (e - f)) := by
  have h1 : l.drop f = (l.drop f).take (e - f) ++ l.drop e := by
    have := List.take_append_drop (e - f) (l.drop f)
    rw [List.drop_drop] at this
    rw [show f + (e - f) = e by omega] at this
    exact this.symm
  rw [← pow4]
  have hl : (l.drop e).length = 4 * m := by rw [List.length_drop]; omega
  rw [h1, dval_append, hl, ← h1, Nat.mul_comm, Nat.add_comm]
theorem seg4_lt {l : List UInt8} (h : digs l) (f k : Nat) (hk : k ≤ 4) : dval ((l.drop f).take k) < 10000 := by
  have h1 := dval_lt (digs_sub h f k)
  have h2 : ((l.drop f).take k).length ≤ 4 := by rw [List.length_take]; omega
  have h3 : 10 ^ ((l.drop f).take k).length ≤ 10 ^ 4 := Nat.pow_le_pow_right (by decide) h2
  omega
theorem cut4_step (l : List UInt8) (L : List Nat) (e f : Nat) (he : e + 4 * L.length = l.length) (hf : f = e - 4) (hd : digs l) (hL : limbs 10000 L)
    (hv : lval 10000 L = dval (l.drop e)) :
    limbs 10000 (L ++ [dval ((l.drop f).take (e - f))]) ∧ lval 10000 (L ++ [dval ((l.drop f).take (e - f))]) = dval (l.drop f) := by
  refine ⟨limbs_append.2 ⟨hL, fun x hx => ?_⟩, ?_⟩
  · rw [List.mem_singleton] at hx; subst hx; exact seg4_lt hd f _ (by omega)
  · rw [lval_snoc, hv, dval_cut4 l L.length e f he (by omega)]
end Cub
namespace Go.Proofs.YtimihoonnglniaaGreatDoor
open Go.RowKit

theorem Tryz.info3 : (Tryz.prog.info? 3).map (fun i => (i.zero, i.size, i.bytes)) = some (some (.int .i64 0), 1, 8) := by kernel_rfl

def i64s (l : List Nat) : List Value := l.map fun x : Nat => Value.int .i64 (x : Int)
theorem i64s_length (l : List Nat) : (i64s l).length = l.length := by simp [i64s]
theorem i64s_get (l : List Nat) (i : Nat) (h : i < l.length) : (i64s l)[i]? = some (.int .i64 (l[i] : Int)) := by simp [i64s, h]

/-- The call owns a row of these limbs. -/
def OwnI (w : World) (base : Nat) (v : Value) (l : List Nat) : Prop := w.ownsRow base 3 1 v l.length (i64s l)

/-- What is read of it in every later world. -/
def CellsI (w : World) (a : Option Addr) (l : List Nat) : Prop :=
  ∀ W, Below w.heap.size w W → ∀ i (hi : i < l.length), ∃ b, a = some ⟨b, 0, none⟩ ∧ W.cell? ⟨b, i, none⟩ = some (.int .i64 (l[i] : Int))

theorem OwnI.open {w : World} {base : Nat} {v : Value} {l : List Nat} (h : OwnI w base v l) : ∃ a cap, v = .slice a l.length cap ∧ l.length ≤ cap ∧ cap ≤ 9223372036854775807 ∧ CellsI w a l := by
  have h' : w.ownsRow base 3 1 v l.length (i64s l) := h
  rcases Joins.ownsRow_forms h' with ⟨rfl, h0⟩ | ⟨g, cap, rfl⟩
  · refine ⟨none, 0, by rw [h0], by omega, by omega, fun W hW i hi => by omega⟩
  · obtain ⟨hx, h2⟩ := id h'
    rcases h2 with ⟨e, _⟩ | ⟨g', cap', cur, e, hb, hg, hcap, hmax, hsz, htk⟩
    · cases e
    · simp only [Value.slice.injEq, Option.some.injEq, Addr.mk.injEq] at e
      obtain ⟨⟨rfl, _⟩, _, rfl⟩ := e
      refine ⟨some ⟨g, 0, none⟩, cap, rfl, hcap, hmax, fun W hW i hi => ⟨g, rfl, ?_⟩⟩
      have hlt : g < w.heap.size := (Array.getElem?_eq_some_iff.1 hg).1
      rw [hW.cell (p := ⟨g, i, none⟩) hlt, h'.cellAt i (by omega), i64s_get l i hi]

theorem OwnI.later {w w' : World} {base : Nat} {v : Value} {l : List Nat} (h : OwnI w base v l) (hb : Below w.heap.size w w') : OwnI w' base v l := by
  obtain ⟨hx, h2⟩ := h
  refine ⟨hx, ?_⟩
  rcases h2 with h2 | ⟨g, cap, cur, e, hbs, hg, r⟩
  · exact Or.inl h2
  · exact Or.inr ⟨g, cap, cur, e, hbs, (hb.block g (Array.getElem?_eq_some_iff.1 hg).1).trans hg, r⟩

theorem OwnI.mono {w : World} {base base' : Nat} {v : Value} {l : List Nat} (h : OwnI w base v l) (hb : base' ≤ base) : OwnI w base' v l := Joins.ownsRow_le h hb

/-- The first ones. -/
theorem OwnI.take {w : World} {base n cap : Nat} {a : Option Addr} {l : List Nat} (h : OwnI w base (.slice a n cap) l) (k : Nat) (hk : k ≤ n) : OwnI w base (.slice a k cap) (l.take k) := by
  obtain ⟨hx, h2⟩ := h
  rcases h2 with ⟨e, h0⟩ | ⟨g, cap', cur, e, hbs, hg, hcap, hmax, hsz, htk⟩
  · simp only [Value.slice.injEq] at e
    obtain ⟨rfl, rfl, rfl⟩ := e
    have : l = [] := List.length_eq_zero_iff.1 h0
    subst this
    have hk0 : k = 0 := by simpa using hk
    subst hk0
    exact World.ownsRow_nil _ _ _ _
  · simp only [Value.slice.injEq] at e
    obtain ⟨rfl, rfl, rfl⟩ := e
    have hl : (l.take k).length = k := by rw [List.length_take]; omega
    unfold OwnI
    rw [hl]
    refine ⟨by rw [i64s_length, hl]; omega, Or.inr ⟨g, cap, cur, rfl, hbs, hg, by omega, hmax, hsz, ?_⟩⟩
    rw [Nat.mul_one] at htk ⊢
    have e3 : cur.toList.take k = (cur.toList.take l.length).take k := by rw [List.take_take, Nat.min_eq_left hk]
    rw [e3, htk]
    simp [i64s, List.map_take]

/-- A slice's length, for a measure. -/
def lenOf : Value → Nat | .slice _ n _ => n | _ => 0

set_option maxRecDepth 100000 in
set_option maxHeartbeats 400000 in
/-- ref trim. -/
theorem refTrim_any (v : Value) (base : Nat) (l : List Nat) (w : World) (h : OwnI w base v l) :
    Calls Tryz.prog 57 #[v] w fun e w' => ∃ v', e = .returned v' ∧ OwnI w base v' (Cub.trimN l) ∧ w' = w := by
  obtain ⟨a, cap, rfl, hc, hm, hcells⟩ := h.open
  have H := hide h
  have HC := hide hcells
  clear h hcells
  obtain ⟨n, hn⟩ : ∃ n, n = l.length := ⟨_, rfl⟩
  rw [← hn] at H hc ⊢
  have HN := hide hn
  clear hn
  go_enter Tryz.func57, Tryz.ntmps57
  go_wp2
  go_loop [0] (fun t => ∃ k : Nat, k ≤ n ∧ t = .slice a k cap ∧ Hid (Cub.trimN (l.take k) = Cub.trimN l)) (fun t => lenOf t)
  case atStart => exact ⟨n, Nat.le_refl _, rfl, by rw [List.take_of_length_le (by have := unhide HN; omega)]; exact rfl⟩
  case round =>
    obtain ⟨k, hk, rfl, ht⟩ := hrel
    have HT := ht
    clear ht
    by_cases hk0 : k = 0
    · subst hk0
      have E : Hid (Cub.trimN l = l.take 0) := by rw [← unhide HT]; exact rfl
      go_wp2
      go_ret
      exact ⟨_, rfl, by rw [unhide E]; exact (unhide H).take 0 (Nat.zero_le _), rfl⟩
    · obtain ⟨j, rfl⟩ : ∃ j, k = j + 1 := ⟨k - 1, by omega⟩
      have hlt : j < l.length := by have := unhide HN; omega
      obtain ⟨b, rfl, hx⟩ := unhide HC w (Below.refl _ _) j hlt
      by_cases hz : l[j] = 0
      · rw [hz] at hx
        have E : Hid (Cub.trimN (l.take j) = Cub.trimN l) := by
          rw [← unhide HT, List.take_succ_eq_append_getElem hlt, hz, Cub.trimN_snoc_zero]; exact rfl
        clear hz
        go_wp2
        go_round
        case rel => exact ⟨j, by omega, by first | rfl | go_num, E⟩
        case measure => simp [lenOf]
      · have E : Hid (Cub.trimN l = l.take (j + 1)) := by
          rw [← unhide HT, List.take_succ_eq_append_getElem hlt, Cub.trimN_snoc _ _ hz]; exact rfl
        have hz' : ((l[j] : Int) == 0) = false := by rw [beq_eq_false_iff_ne]; omega
        clear hz
        go_wp2
        go_ret
        exact ⟨_, rfl, by rw [unhide E]; exact (unhide H).take (j + 1) hk, rfl⟩
end Go.Proofs.YtimihoonnglniaaGreatDoor

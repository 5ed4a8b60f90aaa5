/- RatField: what the calls come to. -/
import Derived.Test.YtndhinoomlofgaaGreatDoorTell
import Derived.Lib.LazyBuf
import Derived.Laws.AppendOwn
import Derived.Lib.ConvBytes
import Derived.Lib.AtoiErrMem
import Derived.Test.YtndhinoomlofgaaGreatDoorNearest
import Derived.Test.YtndhinoomlofgaaGreatDoorQuo
import Derived.Test.YtndhinoomlofgaaGreatDoorParse1
namespace Go.Proofs.YtndhinoomlofgaaGreatDoor
open Go.RowKit

/-- Six bytes in memory. -/
structure B6 (W : World) (g : Nat) (x0 x1 x2 x3 x4 x5 : Int) : Prop where
  c0 : W.cell? ⟨g, 0, none⟩ = some (.int .u8 x0)
  c1 : W.cell? ⟨g, 1, none⟩ = some (.int .u8 x1)
  c2 : W.cell? ⟨g, 2, none⟩ = some (.int .u8 x2)
  c3 : W.cell? ⟨g, 3, none⟩ = some (.int .u8 x3)
  c4 : W.cell? ⟨g, 4, none⟩ = some (.int .u8 x4)
  c5 : W.cell? ⟨g, 5, none⟩ = some (.int .u8 x5)
  f : ∀ k, k < 6 → W.frozen? ⟨g, k, none⟩ = false
theorem B6.set0 {W : World} {g : Nat} {x0 x1 x2 x3 x4 x5 : Int} (h : B6 W g x0 x1 x2 x3 x4 x5) (u : Int) : B6 (W.setCell ⟨g, 0, none⟩ (.int .u8 u)) g u x1 x2 x3 x4 x5 :=
  ⟨World.cell?_setCell_same _ _ _ h.c0, by rw [World.cell?_setCell_other _ _ _ _ (by simp)]; exact h.c1, by rw [World.cell?_setCell_other _ _ _ _ (by simp)]; exact h.c2, by rw [World.cell?_setCell_other _ _ _ _ (by simp)]; exact h.c3, by rw [World.cell?_setCell_other _ _ _ _ (by simp)]; exact h.c4, by rw [World.cell?_setCell_other _ _ _ _ (by simp)]; exact h.c5, fun j hj => by rw [World.frozen?_setCell]; exact h.f j hj⟩
theorem B6.set1 {W : World} {g : Nat} {x0 x1 x2 x3 x4 x5 : Int} (h : B6 W g x0 x1 x2 x3 x4 x5) (u : Int) : B6 (W.setCell ⟨g, 1, none⟩ (.int .u8 u)) g x0 u x2 x3 x4 x5 :=
  ⟨by rw [World.cell?_setCell_other _ _ _ _ (by simp)]; exact h.c0, World.cell?_setCell_same _ _ _ h.c1, by rw [World.cell?_setCell_other _ _ _ _ (by simp)]; exact h.c2, by rw [World.cell?_setCell_other _ _ _ _ (by simp)]; exact h.c3, by rw [World.cell?_setCell_other _ _ _ _ (by simp)]; exact h.c4, by rw [World.cell?_setCell_other _ _ _ _ (by simp)]; exact h.c5, fun j hj => by rw [World.frozen?_setCell]; exact h.f j hj⟩
theorem B6.set2 {W : World} {g : Nat} {x0 x1 x2 x3 x4 x5 : Int} (h : B6 W g x0 x1 x2 x3 x4 x5) (u : Int) : B6 (W.setCell ⟨g, 2, none⟩ (.int .u8 u)) g x0 x1 u x3 x4 x5 :=
  ⟨by rw [World.cell?_setCell_other _ _ _ _ (by simp)]; exact h.c0, by rw [World.cell?_setCell_other _ _ _ _ (by simp)]; exact h.c1, World.cell?_setCell_same _ _ _ h.c2, by rw [World.cell?_setCell_other _ _ _ _ (by simp)]; exact h.c3, by rw [World.cell?_setCell_other _ _ _ _ (by simp)]; exact h.c4, by rw [World.cell?_setCell_other _ _ _ _ (by simp)]; exact h.c5, fun j hj => by rw [World.frozen?_setCell]; exact h.f j hj⟩
theorem B6.set3 {W : World} {g : Nat} {x0 x1 x2 x3 x4 x5 : Int} (h : B6 W g x0 x1 x2 x3 x4 x5) (u : Int) : B6 (W.setCell ⟨g, 3, none⟩ (.int .u8 u)) g x0 x1 x2 u x4 x5 :=
  ⟨by rw [World.cell?_setCell_other _ _ _ _ (by simp)]; exact h.c0, by rw [World.cell?_setCell_other _ _ _ _ (by simp)]; exact h.c1, by rw [World.cell?_setCell_other _ _ _ _ (by simp)]; exact h.c2, World.cell?_setCell_same _ _ _ h.c3, by rw [World.cell?_setCell_other _ _ _ _ (by simp)]; exact h.c4, by rw [World.cell?_setCell_other _ _ _ _ (by simp)]; exact h.c5, fun j hj => by rw [World.frozen?_setCell]; exact h.f j hj⟩
theorem B6.set4 {W : World} {g : Nat} {x0 x1 x2 x3 x4 x5 : Int} (h : B6 W g x0 x1 x2 x3 x4 x5) (u : Int) : B6 (W.setCell ⟨g, 4, none⟩ (.int .u8 u)) g x0 x1 x2 x3 u x5 :=
  ⟨by rw [World.cell?_setCell_other _ _ _ _ (by simp)]; exact h.c0, by rw [World.cell?_setCell_other _ _ _ _ (by simp)]; exact h.c1, by rw [World.cell?_setCell_other _ _ _ _ (by simp)]; exact h.c2, by rw [World.cell?_setCell_other _ _ _ _ (by simp)]; exact h.c3, World.cell?_setCell_same _ _ _ h.c4, by rw [World.cell?_setCell_other _ _ _ _ (by simp)]; exact h.c5, fun j hj => by rw [World.frozen?_setCell]; exact h.f j hj⟩
theorem B6.set5 {W : World} {g : Nat} {x0 x1 x2 x3 x4 x5 : Int} (h : B6 W g x0 x1 x2 x3 x4 x5) (u : Int) : B6 (W.setCell ⟨g, 5, none⟩ (.int .u8 u)) g x0 x1 x2 x3 x4 u :=
  ⟨by rw [World.cell?_setCell_other _ _ _ _ (by simp)]; exact h.c0, by rw [World.cell?_setCell_other _ _ _ _ (by simp)]; exact h.c1, by rw [World.cell?_setCell_other _ _ _ _ (by simp)]; exact h.c2, by rw [World.cell?_setCell_other _ _ _ _ (by simp)]; exact h.c3, by rw [World.cell?_setCell_other _ _ _ _ (by simp)]; exact h.c4, World.cell?_setCell_same _ _ _ h.c5, fun j hj => by rw [World.frozen?_setCell]; exact h.f j hj⟩
theorem B6.drew {W : World} {g : Nat} {x0 x1 x2 x3 x4 x5 : Int} (h : B6 W g x0 x1 x2 x3 x4 x5) : B6 W.drew g x0 x1 x2 x3 x4 x5 :=
  ⟨h.c0, h.c1, h.c2, h.c3, h.c4, h.c5, h.f⟩
theorem b6_new (W : World) : B6 (Lib.bytesWorld W 5 ⟨#[48, 48, 48, 48, 48, 48]⟩) W.heap.size 48 48 48 48 48 48 := by
  have c := fun j hj => Lib.bytesWorld_cell W 5 ⟨#[48, 48, 48, 48, 48, 48]⟩ j hj
  refine ⟨c 0 (by decide), c 1 (by decide), c 2 (by decide), c 3 (by decide), c 4 (by decide), c 5 (by decide), fun k hk => ?_⟩
  have hs : 6 ≤ (Lib.bytesCells W 5 ⟨#[48, 48, 48, 48, 48, 48]⟩).size := by unfold Lib.bytesCells; simp
  simp [World.frozen?, Lib.bytesWorld_at_new]
  omega
theorem cap6 (W : World) : 6 ≤ grownCap W 6 0 5 := grownCap_ge W 6 0 5

set_option maxRecDepth 100000 in
set_option maxHeartbeats 2000000 in
theorem pointed_S (w : World) : Calls Tryz.prog 91 #[.string ⟨#[51, 49, 52, 50, 57]⟩, .int .i64 4] w fun r w' => r = .returned (.string ⟨#[51, 46, 49, 52, 50, 57]⟩) ∧ Below w.heap.size w w' := by
  have H143 : Hid (∀ W, Calls Tryz.prog 145 #[.string ⟨#[48]⟩, .int .i64 6] W fun e w' => e = .returned (.string ⟨#[48, 48, 48, 48, 48, 48]⟩) ∧ Below W.heap.size W w') := fun W => Tryz.strings_Repeat ⟨#[48]⟩ 6 W (by decide) (by decide)
  have z1 : (⟨#[51, 49, 52, 50, 57]⟩ : ByteArray).size = 5 := rfl
  have hcv : ∀ W : World, (convert 9 130 (.string ⟨#[48, 48, 48, 48, 48, 48]⟩)).run Tryz.prog W = .ok (.slice (some ⟨W.heap.size, 0, none⟩) 6 (grownCap W 6 0 5)) (Lib.bytesWorld W 5 ⟨#[48, 48, 48, 48, 48, 48]⟩) := fun W => Lib.run_convert_string_bytes (P := Tryz.prog) W 9 130 5 ⟨#[48, 48, 48, 48, 48, 48]⟩ Tryz.underlying9 Tryz.underlying130 Tryz.underlying5
  go_enter Tryz.func91, Tryz.ntmps91
  go_upto_region 6 with (go_at_call 145; go_must (refine (unhide H143 _).mono ?_; rintro e w1 ⟨rfl, hb1⟩; have HB1 := hide hb1; clear hb1))
  rw [show (max (1 : Int) 0) = 1 from rfl]
  obtain ⟨U, hU⟩ : ∃ U, U = Lib.bytesWorld w1 5 ⟨#[48, 48, 48, 48, 48, 48]⟩ := ⟨_, rfl⟩
  obtain ⟨C, hC⟩ : ∃ C, C = grownCap w1 6 0 5 := ⟨_, rfl⟩
  have hC6 : 6 ≤ C := by rw [hC]; exact cap6 w1
  have HR : Hid (B6 U w1.heap.size 48 48 48 48 48 48 ∧ Below w.heap.size w U ∧ w.heap.size ≤ w1.heap.size) := by
    rw [hU]; exact ⟨b6_new w1, (unhide HB1).trans ((Lib.bytesWorld_below w1 5 _).mono (unhide HB1).size), (unhide HB1).size⟩
  rw [← hU, ← hC]
  clear hU hC hcv H143 HB1
  generalize w1.heap.size = g at *
  have hz : ∀ w, (Go.sizeOf 5).run Tryz.prog w = .ok 1 w := fun _ => by kernel_rfl
  have e1 : (⟨#[51, 49, 52, 50, 57]⟩ : ByteArray).extract 0 1 = ⟨#[51]⟩ := bytes_ext (by rfl)
  have e2 : (⟨#[51, 49, 52, 50, 57]⟩ : ByteArray).extract 1 5 = ⟨#[49, 52, 50, 57]⟩ := bytes_ext (by rfl)
  have hcp : (Builtin.copy_ #[130, 9] 3 #[.slice (some ⟨g, 0, none⟩) 6 C, .string ⟨#[51]⟩]).run Tryz.prog U.drew = .ok (.int .i64 1) (U.drew.setCell ⟨g, 0, none⟩ (.int .u8 51)) := by
    have h := run_copy_string (P := Tryz.prog) U.drew 130 9 3 5 g 0 6 C ⟨#[51]⟩ Tryz.underlying130 hz (by decide) (fun j hj => ?_) (fun j hj => ?_)
    · exact h
    · have : j = 0 := by have : j < 1 := hj; omega
      subst this
      have := (unhide HR).1.c0
      simp [go_sem, this]
    · have : j = 0 := by have : j < 1 := hj; omega
      subst this
      have := (unhide HR).1.f 0 (by decide)
      simpa [go_sem] using this
  have k0 : ¬ C = 0 := by omega
  go_region
  obtain ⟨V1, hV1⟩ : ∃ V1, V1 = (U.setCell ⟨g, 0, none⟩ (.int .u8 51)).drew := ⟨_, rfl⟩
  have HR1 : Hid (B6 V1 g 51 48 48 48 48 48 ∧ Below w.heap.size w V1) := by
    rw [hV1]
    have h3 := (unhide HR).2.1.setCell (p := ⟨g, 0, none⟩) (unhide HR).2.2 (.int .u8 51)
    exact ⟨((unhide HR).1.set0 51).drew, h3.trans (((Below.refl _ _).drew).mono h3.size)⟩
  have hgw := (unhide HR).2.2
  rw [← hV1]
  clear hV1 hcp HR
  have q1 := (unhide HR1).1.c1; have f1 := (unhide HR1).1.f 1 (by decide)
  go_upto_region 8 with fail
  obtain ⟨V2, hV2⟩ : ∃ V2, V2 = V1.setCell ⟨g, 1, none⟩ (.int .u8 46) := ⟨_, rfl⟩
  have HR2 : Hid (B6 V2 g 51 46 48 48 48 48 ∧ Below w.heap.size w V2) := by rw [hV2]; exact ⟨(unhide HR1).1.set1 46, (unhide HR1).2.setCell (p := ⟨g, 1, none⟩) hgw _⟩
  rw [← hV2]
  clear hV2 HR1 q1 f1
  have hcp : (Builtin.copy_ #[130, 9] 3 #[.slice (some ⟨g, 2, none⟩) 4 (C - 2), .string ⟨#[49, 52, 50, 57]⟩]).run Tryz.prog V2.drew = .ok (.int .i64 4) ((((V2.drew.setCell ⟨g, 2, none⟩ (.int .u8 49)).setCell ⟨g, 3, none⟩ (.int .u8 52)).setCell ⟨g, 4, none⟩ (.int .u8 50)).setCell ⟨g, 5, none⟩ (.int .u8 57)) := by
    have hd := (unhide HR2).1.drew
    have h := run_copy_string (P := Tryz.prog) V2.drew 130 9 3 5 g 2 4 (C - 2) ⟨#[49, 52, 50, 57]⟩ Tryz.underlying130 hz (by decide) (fun j hj => ?_) (fun j hj => ?_)
    · exact h
    · have hj4 : j < 4 := hj
      rcases (by omega : j = 0 ∨ j = 1 ∨ j = 2 ∨ j = 3) with rfl | rfl | rfl | rfl
      · rw [show 2 + 0 = 2 from rfl, hd.c2]; rfl
      · rw [show 2 + 1 = 3 from rfl, hd.c3]; rfl
      · rw [show 2 + 2 = 4 from rfl, hd.c4]; rfl
      · rw [show 2 + 3 = 5 from rfl, hd.c5]; rfl
    · have hj4 : j < 4 := hj
      exact hd.f (2 + j) (by omega)
  have k2 : ¬ C = 2 := by omega
  have k2' : (2 : Int) ≤ (C : Int) := by omega
  go_region
  obtain ⟨V3, hV3⟩ : ∃ V3, V3 = ((((V2.setCell ⟨g, 2, none⟩ (.int .u8 49)).setCell ⟨g, 3, none⟩ (.int .u8 52)).setCell ⟨g, 4, none⟩ (.int .u8 50)).setCell ⟨g, 5, none⟩ (.int .u8 57)).drew := ⟨_, rfl⟩
  have HR3 : Hid (B6 V3 g 51 46 49 52 50 57 ∧ Below w.heap.size w V3) := by
    rw [hV3]
    have h3 := ((((unhide HR2).2.setCell (p := ⟨g, 2, none⟩) hgw (.int .u8 49)).setCell (p := ⟨g, 3, none⟩) hgw (.int .u8 52)).setCell (p := ⟨g, 4, none⟩) hgw (.int .u8 50)).setCell (p := ⟨g, 5, none⟩) hgw (.int .u8 57)
    exact ⟨((((((unhide HR2).1.set2 49).set3 52).set4 50).set5 57)).drew, h3.trans (((Below.refl _ _).drew).mono h3.size)⟩
  rw [← hV3]
  clear hV3 hcp HR2
  have hback : (convert 130 9 (.slice (some ⟨g, 0, none⟩) 6 C)).run Tryz.prog V3 = .ok (.string ⟨#[51, 46, 49, 52, 50, 57]⟩) V3 := run_convert_bytes_back (P := Tryz.prog) V3 130 9 5 ⟨g, 0, none⟩ C [51, 46, 49, 52, 50, 57] Tryz.underlying130 Tryz.underlying5 Tryz.underlying9 (fun q hq => by
    have hd := (unhide HR3).1
    have hq6 : q < 6 := hq
    have e : (⟨g, 0, none⟩ : Addr).add q = ⟨g, q, none⟩ := by unfold Addr.add; split <;> simp_all
    rw [e]
    rcases (by omega : q = 0 ∨ q = 1 ∨ q = 2 ∨ q = 3 ∨ q = 4 ∨ q = 5) with rfl | rfl | rfl | rfl | rfl | rfl
    · exact hd.c0
    · exact hd.c1
    · exact hd.c2
    · exact hd.c3
    · exact hd.c4
    · exact hd.c5)
  go_wp2
  go_ret
  exact ⟨rfl, (unhide HR3).2⟩
end Go.Proofs.YtndhinoomlofgaaGreatDoor

namespace Go.Proofs.YtndhinoomlofgaaGreatDoor
open Go.RowKit

theorem lit_tb (s : ByteArray) (n : Nat) (h : Cub.rightB s.data.toList = true) (hv : Cub.dval s.data.toList = n) : s = tb n ∧ n < 10 ^ 600 := by
  obtain ⟨m, hm, rfl⟩ := tb_of h
  have := (tb_right m hm).2
  have e : m = n := this.symm.trans hv
  subst e
  exact ⟨rfl, hm⟩
theorem QOf.exact {w : World} {v : Value} {b : Bool} {n d k : Nat} (h : QOf w v (Cub.valQ b n d) k) (hl : Cub.Low b n d) : IsFrac w v b n d := by
  obtain ⟨b', n', d', h1, h2, h3, _⟩ := h
  obtain ⟨rfl, rfl, rfl⟩ := Cub.low_unique h2 hl h3
  exact h1

set_option maxRecDepth 100000 in
set_option maxHeartbeats 2000000 in
theorem digits_S (w : World) (htab : Tab w) : Calls Tryz.prog 28 #[.agg #[.string ⟨#[50, 50]⟩, .string ⟨#[55]⟩], .int .i64 4] w fun r w' => r = .returned (.tuple #[.string ⟨#[51, 46, 49, 52, 50, 57]⟩, .int .i64 0]) ∧ Below w.heap.size w w' := by
  obtain ⟨V, hV⟩ : ∃ V, V = w.alloc (.cells #[.string ⟨#[50, 50]⟩, .string ⟨#[55]⟩] 23) := ⟨_, rfl⟩
  have hbV : Below w.heap.size w V := by rw [hV]; exact (Below.refl _ _).alloc (Nat.le_refl _) _
  have HBV := hide hbV
  have HV := hide hV
  have hl : Cub.Low false 22 7 := ⟨by decide, by decide, by decide⟩
  obtain ⟨e22, l22⟩ := lit_tb ⟨#[50, 50]⟩ 22 (by decide) (by decide)
  obtain ⟨e7, l7⟩ := lit_tb ⟨#[55]⟩ 7 (by decide) (by decide)
  have HRD : Hid (Calls Tryz.prog 78 #[.agg #[.string ⟨#[50, 50]⟩, .string ⟨#[55]⟩]] V fun r w' => ∃ v, r = .returned (.tuple #[v, .bool true]) ∧ IsFrac w' v false 22 7 ∧ Below V.heap.size V w') := by
    refine (read_ok ⟨#[50, 50]⟩ ⟨#[55]⟩ false 22 7 V e22 e7 l22 l7 (by decide) (by decide) (by decide)).mono ?_
    rintro r w' ⟨v, rfl, hv, hb⟩
    exact ⟨v, rfl, hv.exact hl, hb⟩
  have HNE : Hid (∀ W v, IsFrac W v false 22 7 → Calls Tryz.prog 88 #[v, .int .i64 4] W fun e w' => ∃ a l c, e = .returned (.agg #[.slice a l c]) ∧ IsBig w' (.agg #[.slice a l c]) 31429 ∧ Below W.heap.size W w') := fun W v h => nearest_up v false 22 7 4 1 W h (by decide) (by decide) (by decide) (by decide) (by decide) (by decide) (by decide)
  obtain ⟨e5, l5⟩ := lit_tb ⟨#[51, 49, 52, 50, 57]⟩ 31429 (by decide) (by decide)
  have HLE : Hid (∀ W v, IsBig W v 31429 → ∃ L : Nat, L ≤ 600 ∧ Calls Tryz.prog 89 #[v] W fun e w' => e = .returned (.int .i64 (L : Int)) ∧ Below W.heap.size W w') := fun W v h => ⟨_, (len600 31429).2 l5, len_any v 31429 1 W h (by decide) (by decide)⟩
  have HTX : Hid (∀ W v, Tab W → IsBig W v 31429 → Calls Tryz.prog 92 #[v] W fun e w' => e = .returned (.string ⟨#[51, 49, 52, 50, 57]⟩) ∧ Below W.heap.size W w') := fun W v ht h => by
    have := text_any v 31429 1 W h (by decide) (by decide) ht
    rwa [show (⟨(Lib.decDigits 31429).toArray⟩ : ByteArray) = ⟨#[51, 49, 52, 50, 57]⟩ from by rw [e5]; exact bytes_ext (by rw [tb_list _ l5])] at this
  have HPT : Hid (∀ W, Calls Tryz.prog 91 #[.string ⟨#[51, 49, 52, 50, 57]⟩, .int .i64 4] W fun r w' => r = .returned (.string ⟨#[51, 46, 49, 52, 50, 57]⟩) ∧ Below W.heap.size W w') := fun W => pointed_S W
  have HSG : Hid (∀ W, Calls Tryz.prog 80 #[.bool false, .string ⟨#[51, 46, 49, 52, 50, 57]⟩] W fun e w' => e = .returned (.string ⟨#[51, 46, 49, 52, 50, 57]⟩) ∧ w' = W) := fun W => signed_any false ⟨#[51, 46, 49, 52, 50, 57]⟩ W (by decide)
  have HTW := hide htab
  clear htab hbV hl e22 l22 e7 l7 e5 l5
  generalize (⟨#[51, 49, 52, 50, 57]⟩ : ByteArray) = s5 at *
  generalize (⟨#[51, 46, 49, 52, 50, 57]⟩ : ByteArray) = s6 at *
  go_enter Tryz.func28, Tryz.ntmps28
  go_upto_region 1 with fail
  rw [← unhide HV]
  have c0 : V.cell? ⟨w.heap.size, 0, none⟩ = some (.string ⟨#[50, 50]⟩) := by rw [hV]; simp [go_sem]
  have c1 : V.cell? ⟨w.heap.size, 1, none⟩ = some (.string ⟨#[55]⟩) := by rw [hV]; simp [go_sem]
  clear hV HV
  generalize (⟨#[50, 50]⟩ : ByteArray) = n22 at *
  generalize (⟨#[55]⟩ : ByteArray) = n7 at *
  go_upto_region 2 with (go_at_call 78; go_must (refine (unhide HRD).mono ?_; rintro e w1 ⟨v1, rfl, hv1, hb1⟩; obtain ⟨i1, i2, i3, i4, i5, i6, rfl, _, _⟩ := hv1.form; have HF1 := hide hv1; have HB1 := hide ((unhide HBV).trans (hb1.mono (unhide HBV).size)); clear hv1 hb1 c0 c1))
  obtain ⟨V2, hV2⟩ : ∃ V2, V2 = w1.alloc (.cells #[.bool false, .slice i1 i2 i3, .slice i4 i5 i6] 74) := ⟨_, rfl⟩
  have hb2 : Below w1.heap.size w1 V2 := by rw [hV2]; exact (Below.refl _ _).alloc (Nat.le_refl _) _
  have HP : Hid (FBox V2 w1.heap.size (.bool false) (.slice i1 i2 i3) (.slice i4 i5 i6)) := by rw [hV2]; exact FBox.new _ _ _ _
  have HF2 := hide ((unhide HF1).later hb2); have HB2 := hide ((unhide HB1).trans (hb2.mono (unhide HB1).size))
  rw [← hV2]
  clear hV2 hb2 HF1 HB1 HRD HBV
  generalize w1.heap.size = g6 at *
  have t0 := (unhide HP).c0; have t1 := (unhide HP).c1; have t2 := (unhide HP).c2
  go_upto_region 7 with (go_at_call 88; go_must (refine (unhide HNE _ _ (unhide HF2)).mono ?_; rintro e w3 ⟨a3, l3, c3, rfl, hv3, hb3⟩; have HN3 := hide hv3; have HP3 := hide ((unhide HP).later hb3); have HB3 := hide ((unhide HB2).trans (hb3.mono (unhide HB2).size)); clear hv3 hb3 t0 t1 t2))
  obtain ⟨V4, hV4⟩ : ∃ V4, V4 = w3.alloc (.cells #[.slice a3 l3 c3] 72) := ⟨_, rfl⟩
  have hb4 : Below w3.heap.size w3 V4 := by rw [hV4]; exact (Below.refl _ _).alloc (Nat.le_refl _) _
  have HX : Hid (Box V4 w3.heap.size (.slice a3 l3 c3)) := by rw [hV4]; exact Box.new _ _
  have HN4 := hide ((unhide HN3).later hb4); have HP4 := hide ((unhide HP3).later hb4); have HB4 := hide ((unhide HB3).trans (hb4.mono (unhide HB3).size))
  rw [← hV4]
  clear hV4 hb4 HN3 HP3 HB3 HP HB2 HF2
  generalize w3.heap.size = g8 at *
  obtain ⟨L, hL, hcl⟩ := unhide HLE V4 _ (unhide HN4)
  have HCL := hide hcl
  clear hcl
  have u8 := (unhide HX).c
  go_upto_region 9 with (go_at_call 89; go_must (refine (unhide HCL).mono ?_; rintro e w5 ⟨rfl, hb5⟩; have HN5 := hide ((unhide HN4).later hb5); have HP5 := hide ((unhide HP4).later hb5); have HX5 := hide ((unhide HX).later hb5); have HB5 := hide ((unhide HB4).trans (hb5.mono (unhide HB4).size)); clear hb5 u8))
  have q0 : ∀ z : Later w5, z.world.cell? ⟨g6, 0, none⟩ = some (.bool false) := fun z => ((unhide HP5).later z.below).c0
  have q8 : ∀ z : Later w5, z.world.cell? ⟨g8, 0, none⟩ = some (.slice a3 l3 c3) := fun z => ((unhide HX5).later z.below).c
  have HTX5 : Hid (∀ z : Later w5, Calls Tryz.prog 92 #[.agg #[.slice a3 l3 c3]] z.world fun e w' => e = .returned (.string s5) ∧ Below z.world.heap.size z.world w') := fun z => unhide HTX _ _ ((unhide HTW).later ((unhide HB5).trans (z.below.mono (unhide HB5).size))) ((unhide HN5).later z.below)
  refine quiet_later (by kernel_rfl) (by kernel_rfl) ?_
  repeat (go_big_quiet_step (first
    | (go_at_call 92; rename_i xx; refine (unhide HTX5 xx).mono ?_; rintro e w9 ⟨rfl, hb9⟩; have hz := xx.below.trans (hb9.mono xx.below.size); first | exact ⟨rfl, ⟨w9, hz⟩, rfl⟩ | exact ⟨rfl, hz⟩ | exact ⟨rfl, w9, hz, rfl⟩)
    | (go_at_call 91; rename_i xx; refine (unhide HPT xx.world).mono ?_; rintro e w9 ⟨rfl, hb9⟩; have hz := xx.below.trans (hb9.mono xx.below.size); first | exact ⟨rfl, ⟨w9, hz⟩, rfl⟩ | exact ⟨rfl, hz⟩ | exact ⟨rfl, w9, hz, rfl⟩)
    | (go_at_call 80; rename_i xx; refine (unhide HSG xx.world).mono ?_; rintro e w9 ⟨rfl, rfl⟩; first | exact ⟨rfl, xx, rfl⟩ | exact ⟨rfl, xx.below⟩ | exact ⟨rfl, _, xx.below, rfl⟩)))
  refine wpQuiet_nil ?_
  intro _ hw'
  obtain ⟨xz, hw''⟩ := hw'
  subst hw''
  have HE := hide ((unhide HB5).trans (xz.below.mono (unhide HB5).size))
  clear q0 q8
  go_wp2_with fail
  exact bodyPost_ret (v := .tuple #[.string s6, .int .i64 0]) (by simp [results, Tryz.results28, go_sem]) rfl ⟨rfl, unhide HE⟩

set_option maxRecDepth 100000 in
set_option maxHeartbeats 2000000 in
theorem awake_any (w : World) (htab : Tab w) : Calls Tryz.prog 23 #[] w fun r w' => r = .returned (.bool true) ∧ Below w.heap.size w w' := by
  obtain ⟨e1, l1⟩ := lit_tb ⟨#[49]⟩ 1 (by decide) (by decide)
  obtain ⟨e8, l8⟩ := lit_tb ⟨#[56]⟩ 8 (by decide) (by decide)
  have es : sT true 1 = ⟨#[45, 49]⟩ := by unfold sT; rw [if_pos rfl, ← e1]; exact bytes_ext (by rfl)
  have HP := hide (parse_S w htab)
  rw [es, ← e8] at HP
  have HD := hide (fun W (hb : Below w.heap.size w W) => digits_S W (htab.later hb))
  have hS : exS = ⟨#[45, 49, 46, 50, 53, 48, 101, 45, 49]⟩ := rfl
  rw [hS] at HP
  clear htab e1 l1 e8 l8 es hS
  go_enter Tryz.func23, Tryz.ntmps23
  go_upto_region 2 with (go_at_call 24; go_must (refine (unhide HP).mono ?_; rintro e w1 ⟨rfl, hb1⟩; have HB1 := hide hb1; clear hb1))
  obtain ⟨V2, hV2⟩ : ∃ V2, V2 = w1.alloc (.cells #[.string ⟨#[45, 49]⟩, .string ⟨#[56]⟩] 23) := ⟨_, rfl⟩
  have hb2 : Below w1.heap.size w1 V2 := by rw [hV2]; exact (Below.refl _ _).alloc (Nat.le_refl _) _
  have HB2 := hide ((unhide HB1).trans (hb2.mono (unhide HB1).size))
  have HX : Hid (T2 V2 w1.heap.size (.string ⟨#[45, 49]⟩) (.string ⟨#[56]⟩)) := by rw [hV2]; exact ⟨by simp [go_sem], by simp [go_sem], by simp [go_sem], by simp [go_sem]⟩
  rw [← hV2]
  clear hV2 hb2 HB1
  generalize w1.heap.size = g1 at *
  go_upto_region 3 with (go_at_call 28; go_must (refine (unhide HD _ (unhide HB2)).mono ?_; rintro e w3 ⟨rfl, hb3⟩; have HX3 := hide ((unhide HX).later hb3); have HB3 := hide ((unhide HB2).trans (hb3.mono (unhide HB2).size)); clear hb3))
  have u0 := (unhide HX3).c0; have u1 := (unhide HX3).c1
  go_wp2_with fail
  go_ret
  exact ⟨rfl, unhide HB3⟩
end Go.Proofs.YtndhinoomlofgaaGreatDoor

namespace Go.Proofs.YtndhinoomlofgaaGreatDoor
open Go.RowKit

/-- Three numbers in their boxes, and more of them. -/
structure L3 (w W : World) (n1 d1 n2 d2 n3 d3 : ByteArray) (L : List (Nat × ByteArray × ByteArray)) : Prop where
  a : T2 W w.heap.size (.string n1) (.string d1)
  b : T2 W (w.heap.size + 1) (.string n2) (.string d2)
  c : T2 W (w.heap.size + 1 + 1) (.string n3) (.string d3)
  bx : ∀ p ∈ L, T2 W p.1 (.string p.2.1) (.string p.2.2)
  below : Below w.heap.size w W
theorem L3.later {w W V : World} {n1 d1 n2 d2 n3 d3 : ByteArray} {L : List (Nat × ByteArray × ByteArray)} (s : L3 w W n1 d1 n2 d2 n3 d3 L) (hb : Below W.heap.size W V) : L3 w V n1 d1 n2 d2 n3 d3 L :=
  ⟨s.a.later hb, s.b.later hb, s.c.later hb, fun p hp => (s.bx p hp).later hb, s.below.trans (hb.mono s.below.size)⟩
theorem L3.first (w : World) (n1 d1 n2 d2 n3 d3 : ByteArray) : L3 w (((w.alloc (.cells #[.string n1, .string d1] 23)).alloc (.cells #[.string n2, .string d2] 23)).alloc (.cells #[.string n3, .string d3] 23)) n1 d1 n2 d2 n3 d3 [] :=
  ⟨⟨by simp [go_sem], by simp [go_sem], by simp [go_sem], by simp [go_sem]⟩, ⟨by simp [go_sem], by simp [go_sem], by simp [go_sem], by simp [go_sem]⟩, ⟨by simp [go_sem], by simp [go_sem], by simp [go_sem], by simp [go_sem]⟩, (fun _ h => by cases h),
    (((Below.refl _ _).alloc (Nat.le_refl _) _).alloc (by simp) _).alloc (by simp; omega) _⟩
theorem L3.push {w W : World} {n1 d1 n2 d2 n3 d3 : ByteArray} {L : List (Nat × ByteArray × ByteArray)} (s : L3 w W n1 d1 n2 d2 n3 d3 L) (x y : ByteArray) : L3 w (W.alloc (.cells #[.string x, .string y] 23)) n1 d1 n2 d2 n3 d3 ((W.heap.size, x, y) :: L) := by
  have t := s.later ((Below.refl W.heap.size W).alloc (Nat.le_refl _) (.cells #[.string x, .string y] 23))
  refine ⟨t.a, t.b, t.c, ?_, t.below⟩
  intro p hp
  rcases List.mem_cons.1 hp with rfl | hp
  · exact ⟨by simp [go_sem], by simp [go_sem], by simp [go_sem], by simp [go_sem]⟩
  · exact t.bx p hp
end Go.Proofs.YtndhinoomlofgaaGreatDoor

namespace Go.Proofs.YtndhinoomlofgaaGreatDoor
open Go.RowKit

/-- What the document's Right answers. -/
def RB (n d : ByteArray) (ok : Bool) : Prop := ∀ W, Calls Tryz.prog 20 #[.agg #[.string n, .string d]] W fun r w' => r = .returned (.bool ok) ∧ Below W.heap.size W w'
theorem rb_yes {n d : ByteArray} (s1 : n.size ≤ maxLen) (s2 : d.size ≤ maxLen) (h : RightT n d) : RB n d true := fun W => by
  obtain ⟨ok, hok, hc⟩ := refR_any n d W s1 s2
  rwa [hok.2 h] at hc
theorem rb_no {n d : ByteArray} (s1 : n.size ≤ maxLen) (s2 : d.size ≤ maxLen) (h : ¬ RightT n d) : RB n d false := fun W => by
  obtain ⟨ok, hok, hc⟩ := refR_any n d W s1 s2
  have : ok = false := by cases ok with
    | false => rfl
    | true => exact absurd (hok.1 rfl) h
  rwa [this] at hc

end Go.Proofs.YtndhinoomlofgaaGreatDoor

namespace Go.Proofs.YtndhinoomlofgaaGreatDoor
open Go.RowKit

theorem errT_pos {x : Rat} (h : Small x) : errT x = 0 := by unfold errT; rw [if_pos h]
end Go.Proofs.YtndhinoomlofgaaGreatDoor

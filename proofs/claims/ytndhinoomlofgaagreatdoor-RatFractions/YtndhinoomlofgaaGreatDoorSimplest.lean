/- rat.simplest: the simplest number between two. -/
import Derived.Test.YtndhinoomlofgaaGreatDoorUnfold
import Derived.Test.YtndhinoomlofgaaGreatDoorChainT
import Derived.Test.YtndhinoomlofgaaGreatDoorQuo
import Derived.WalkMore
import Derived.Test.YtndhinoomlofgaaGreatDoorTx
namespace Go.Proofs.YtndhinoomlofgaaGreatDoor
open Go.RowKit
theorem sum_135 {m n : Nat} (hm : m < 1000000000 ^ 134) (hn : n < 1000000000 ^ 134) : m + n < 1000000000 ^ 135 := by
  rw [show (135 : Nat) = 134 + 1 from rfl, Nat.pow_succ]
  generalize 1000000000 ^ 134 = B at *
  omega
set_option maxRecDepth 100000 in
set_option maxHeartbeats 4000000 in
theorem unfold_no (v : Value) (ns : List Nat) (w : World) (hrow : RowN w v ns) (hpos : ∀ n ∈ ns, 0 < n) (hsm : ∀ n ∈ ns, n < 1000000000 ^ 67) (hd : ¬ (Cub.un ns).2.1 < 10 ^ 600) :
    Calls Tryz.prog 124 #[v] w fun e w' => e = .returned (.tuple #[.agg #[.slice none 0 0], .agg #[.slice none 0 0], .bool false]) ∧ Below w.heap.size w w' := by
  obtain ⟨V, hV⟩ : ∃ V, V = (w.alloc (.cells #[.slice none 0 0] 72)).alloc (.cells #[.slice none 0 0] 72) := ⟨_, rfl⟩
  have HS0 : Hid (Box V w.heap.size (.slice none 0 0) ∧ Box V (w.heap.size + 1) (.slice none 0 0) ∧ Below w.heap.size w V) := by
    rw [hV]; exact ⟨⟨by simp [go_sem], by simp [go_sem]⟩, ⟨by simp [go_sem], by simp [go_sem]⟩, ((Below.refl _ _).alloc (Nat.le_refl _) _).alloc (by simp) _⟩
  have HV := hide hV
  have HBO : Hid (∀ W, Calls Tryz.prog 114 #[.int .u64 1] W fun e w' => ∃ a n c, e = .returned (.agg #[.slice a n c]) ∧ IsBig w' (.agg #[.slice a n c]) 1 ∧ Below W.heap.size W w') := fun W => bigOf_any 1 W (by decide)
  obtain ⟨a0, cap0, rfl, hcap, hmax, hcells⟩ := hrow
  have HROW : Hid (RowN w (.slice a0 ns.length cap0) ns) := ⟨a0, cap0, rfl, hcap, hmax, hcells⟩
  clear hcells
  go_enter Tryz.func124, Tryz.ntmps124
  go_upto_region 1 with fail
  rw [← unhide HV]
  clear hV HV
  go_upto_region 2 with (go_at_call 114; go_must (refine (unhide HBO _).mono ?_; rintro e w1 ⟨aa, la, ca, rfl, hva, hba⟩; have HS1 : Hid (Box w1 w.heap.size (.slice none 0 0) ∧ Box w1 (w.heap.size + 1) (.slice none 0 0) ∧ Below w.heap.size w w1) := ⟨(unhide HS0).1.later hba, (unhide HS0).2.1.later hba, (unhide HS0).2.2.trans (hba.mono (unhide HS0).2.2.size)⟩; have HVA := hide hva; clear hva hba; have b0 := (unhide HS1).1.c; have bf0 := (unhide HS1).1.f; have b1 := (unhide HS1).2.1.c; have bf1 := (unhide HS1).2.1.f))
  obtain ⟨V2, hV2⟩ : ∃ V2, V2 = (w1.setCell { block := w.heap.size, off := 0 } (.slice none 0 0)).setCell { block := w.heap.size + 1, off := 0 } (.slice aa la ca) := ⟨_, rfl⟩
  have HS2 : Hid (Box V2 w.heap.size (.slice none 0 0) ∧ Box V2 (w.heap.size + 1) (.slice aa la ca) ∧ IsBig V2 (.agg #[.slice aa la ca]) 1 ∧ Below w.heap.size w V2) := by
    rw [hV2]
    exact ⟨((unhide HS1).1.set _).other (by omega) _, ((unhide HS1).2.1.other (by omega) _).set _, ((unhide HVA).box _ b0 (sl_no _ _ _)).box _ ((unhide HS1).2.1.other (by omega) _).c (sl_no _ _ _), ((unhide HS1).2.2.setCell (p := ⟨w.heap.size, 0, none⟩) (Nat.le_refl _) _).setCell (p := ⟨w.heap.size + 1, 0, none⟩) (by simp) _⟩
  rw [← hV2]
  clear hV2 b0 bf0 b1 bf1 HS0 HS1 HVA
  go_upto_region 3 with (go_at_call 114; go_must (refine (unhide HBO _).mono ?_; rintro e w3 ⟨ab, lb, cb, rfl, hvb, hbb⟩; have HS3 : Hid (Box w3 w.heap.size (.slice none 0 0) ∧ Box w3 (w.heap.size + 1) (.slice aa la ca) ∧ IsBig w3 (.agg #[.slice aa la ca]) 1 ∧ Below w.heap.size w w3) := ⟨(unhide HS2).1.later hbb, (unhide HS2).2.1.later hbb, (unhide HS2).2.2.1.later hbb, (unhide HS2).2.2.2.trans (hbb.mono (unhide HS2).2.2.2.size)⟩; have HVB := hide hvb; clear hvb hbb))
  obtain ⟨V4, hV4⟩ : ∃ V4, V4 = (w3.alloc (.cells #[.slice ab lb cb] 72)).alloc (.cells #[.slice none 0 0] 72) := ⟨_, rfl⟩
  have HU0 : Hid (UB w V4 w3.heap.size (w3.heap.size + 1) (.slice none 0 0) (.slice aa la ca) (.slice ab lb cb) (.slice none 0 0) 0 1 1 0) := by
    have hb4 : Below w3.heap.size w3 V4 := by rw [hV4]; exact ((Below.refl _ _).alloc (Nat.le_refl _) _).alloc (by simp) _
    refine ⟨(unhide HS3).1.later hb4, (unhide HS3).2.1.later hb4, ?_, ?_, IsBig.zero _, (unhide HS3).2.2.1.later hb4, (unhide HVB).later hb4, IsBig.zero _, (unhide HS3).2.1.lt, by omega, (unhide HS3).2.2.2.trans (hb4.mono (unhide HS3).2.2.2.size)⟩
    · rw [hV4]; exact ⟨by simp [go_sem], by simp [go_sem]⟩
    · rw [hV4]; exact ⟨by simp [go_sem], by simp [go_sem]⟩
  rw [← hV4]
  clear hV4 HS2 HS3 HVB
  obtain ⟨g5, hg5⟩ : ∃ g5, g5 = w3.heap.size := ⟨_, rfl⟩
  obtain ⟨g6, hg6⟩ : ∃ g6, g6 = w3.heap.size + 1 := ⟨_, rfl⟩
  rw [← hg6, ← hg5] at HU0 ⊢
  clear hg5 hg6
  have HCAP := hide (And.intro hcap hmax)
  obtain ⟨E, hE⟩ : ∃ E : Nat, E = 600 := ⟨_, rfl⟩
  have HP6 : Hid (10 ^ E ≤ 1000000000 ^ 67) := by rw [hE]; exact pow_nine 600 67 (by decide)
  rw [← hE] at hd
  have HE := hide hE
  clear hE
  have HMU : Hid (∀ W x y m n, IsBig W x m → IsBig W y n → m < 1000000000 ^ 67 → n < 1000000000 ^ 67 → Calls Tryz.prog 149 #[x, y] W fun e w' => ∃ v, e = .returned v ∧ IsBig w' v (m * n) ∧ Below W.heap.size W w') := fun W x y m n hx hy hm hn => mul_any x y m n 67 W hx hy (by decide) hm hn
  have HAD : Hid (∀ W x y m n, IsBig W x m → IsBig W y n → m < 1000000000 ^ 134 → n < 1000000000 ^ 134 → Calls Tryz.prog 142 #[x, y] W fun e w' => ∃ v, e = .returned v ∧ IsBig w' v (m + n) ∧ Below W.heap.size W w') := fun W x y m n hx hy hm hn => add_any x y m n 134 W hx hy (by decide) hm hn
  have HLE : Hid (∀ W x m, IsBig W x m → m < 1000000000 ^ 135 → Calls Tryz.prog 89 #[x] W fun e w' => e = .returned (.int .i64 (Lib.nDigits m : Nat)) ∧ Below W.heap.size W w') := fun W x m hx hm => len_any x m 135 W hx (by decide) hm
  have HONE : Hid ((Cub.un (ns.take 0)).2.1 < 10 ^ E) := by
    show (1 : Nat) < 10 ^ E
    exact Nat.one_lt_pow (by have := unhide HE; omega) (by decide)
  have HPOS := hide hpos; have HSM := hide hsm; have HD := hide hd
  clear hpos hsm hd
  go_wp2
  go_loopw [15] (fun t wr => ∃ (k : Nat) (a2 : Option Addr) (l2 c2 : Nat) (a3 : Option Addr) (l3 c3 : Nat) (a5 : Option Addr) (l5 c5 : Nat) (a6 : Option Addr) (l6 c6 : Nat), k ≤ ns.length ∧ t = .int .i64 (k : Int) ∧ Hid (UB w wr g5 g6 (.slice a2 l2 c2) (.slice a3 l3 c3) (.slice a5 l5 c5) (.slice a6 l6 c6) (Cub.un (ns.take k)).1.1 (Cub.un (ns.take k)).2.1 (Cub.un (ns.take k)).1.2 (Cub.un (ns.take k)).2.2) ∧ Hid ((Cub.un (ns.take k)).2.1 < 10 ^ E)) (fun t _ => ns.length - (intOf t).toNat)
  case atStart => exact ⟨0, _, _, _, _, _, _, _, _, _, _, _, _, Nat.zero_le _, rfl, HU0, unhide HONE⟩
  case round =>
    clear HU0
    obtain ⟨k, a2, l2, c2, a3, l3, c3, a5, l5, c5, a6, l6, c6, hk, rfl, HU, HKB⟩ := hrel
    by_cases hlt : k < ns.length
    · have hlt' : (k : Int) < (ns.length : Int) := by omega
      have hk0 : (0 : Int) ≤ (k : Int) := by omega
      obtain ⟨b, o, a', l', c', rfl, hbl, hcl, hbig⟩ : ∃ b o a' l' c', a0 = some ⟨b, o, none⟩ ∧ b < wr.heap.size ∧ wr.cell? ⟨b, o + k, none⟩ = some (.slice a' l' c') ∧ IsBig wr (.agg #[.slice a' l' c']) ns[k] := by
        obtain ⟨aq, cq, eq, _, _, hq⟩ := (unhide HROW).later (unhide HU).below
        simp only [Value.slice.injEq] at eq
        obtain ⟨rfl, _, rfl⟩ := eq
        exact hq k hlt
      have HX := hide hbig
      clear hbig
      have HBD : Hid (UBd (Cub.un (ns.take k)).1.1 (Cub.un (ns.take k)).2.1 (Cub.un (ns.take k)).1.2 (Cub.un (ns.take k)).2.2 ns[k]) := by
        have h1 := unhide HKB
        have h2 := un_bd ns k _ (unhide HPOS) h1
        have p6 := unhide HP6
        exact ⟨Nat.lt_of_lt_of_le h2.1 p6, Nat.lt_of_lt_of_le h1 p6, Nat.lt_of_lt_of_le h2.2.1 p6, Nat.lt_of_lt_of_le h2.2.2 p6, unhide HSM _ (List.getElem_mem _)⟩
      have HNX := hide (un_take ns k hlt)
      clear HKB
      obtain ⟨p2, hp2⟩ : ∃ p2, p2 = (Cub.un (ns.take k)).1.1 := ⟨_, rfl⟩
      obtain ⟨p3, hp3⟩ : ∃ p3, p3 = (Cub.un (ns.take k)).2.1 := ⟨_, rfl⟩
      obtain ⟨p5, hp5⟩ : ∃ p5, p5 = (Cub.un (ns.take k)).1.2 := ⟨_, rfl⟩
      obtain ⟨p6, hp6⟩ : ∃ p6, p6 = (Cub.un (ns.take k)).2.2 := ⟨_, rfl⟩
      obtain ⟨q, hq⟩ : ∃ q, q = ns[k] := ⟨_, rfl⟩
      rw [← hp2, ← hp3, ← hp5, ← hp6] at HU HBD HNX
      rw [← hq] at HBD HNX HX
      clear hp2 hp3 hp5 hp6 hq
      go_upto_region 6 with fail
      obtain ⟨V5, hV5⟩ : ∃ V5, V5 = wr.alloc (.cells #[.slice a' l' c'] 72) := ⟨_, rfl⟩
      have hb5 : Below wr.heap.size wr V5 := by rw [hV5]; exact (Below.refl _ _).alloc (Nat.le_refl _) _
      have HU5 := hide ((unhide HU).later hb5)
      have HXa := hide ((unhide HX).later hb5)
      have HB8a : Hid (Box V5 wr.heap.size (.slice a' l' c')) := by rw [hV5]; exact ⟨by simp [go_sem], by simp [go_sem]⟩
      have HG8 : Hid (w.heap.size + 1 < wr.heap.size ∧ g5 < wr.heap.size ∧ g6 < wr.heap.size) := ⟨(unhide HU).b3.lt, (unhide HU).b5.lt, (unhide HU).b6.lt⟩
      rw [← hV5]
      clear hV5 hb5 hcl hbl HU HX
      generalize wr.heap.size = g8 at *
      have HSa0 : Hid (V5.drew.cell? ⟨w.heap.size, 0, none⟩ = some (.slice a2 l2 c2) ∧ V5.drew.cell? ⟨g8, 0, none⟩ = some (.slice a' l' c') ∧ V5.drew.cell? ⟨g5, 0, none⟩ = some (.slice a5 l5 c5)) := ⟨((unhide HU5).later ((Below.refl _ _).drew)).b2.c, ((unhide HB8a).later ((Below.refl _ _).drew)).c, ((unhide HU5).later ((Below.refl _ _).drew)).b5.c⟩
      refine region_reads 6 (fun W => W.cell? ⟨w.heap.size, 0, none⟩ = some (.slice a2 l2 c2) ∧ W.cell? ⟨g8, 0, none⟩ = some (.slice a' l' c') ∧ W.cell? ⟨g5, 0, none⟩ = some (.slice a5 l5 c5)) (fun _ => True) 8 rfl (by kernel_rfl) ?_
      refine wpR_take (i := 0) (oi := _) (v := .agg #[.slice a2 l2 c2]) rfl (by kernel_rfl) (by kernel_rfl) (by kernel_rfl) (by kernel_rfl) (fun _ _ _ h => h) (Or.inl ⟨by rfl, ?_⟩) ⟨unhide HSa0, trivial⟩ ?_
      · intro W hW
        go_split_ands
        go_simp
      refine wpR_take (i := 1) (oi := _) (v := .agg #[.slice a' l' c']) rfl (by kernel_rfl) (by kernel_rfl) (by kernel_rfl) (by kernel_rfl) (fun _ _ _ h => h) (Or.inl ⟨by rfl, ?_⟩) ⟨unhide HSa0, trivial⟩ ?_
      · intro W hW
        go_split_ands
        go_simp
      refine wpR_take (i := 3) (oi := _) (v := .agg #[.slice a5 l5 c5]) rfl (by kernel_rfl) (by kernel_rfl) (by kernel_rfl) (by kernel_rfl) (fun _ _ _ h => h) (Or.inl ⟨by rfl, ?_⟩) ⟨unhide HSa0, trivial⟩ ?_
      · intro W hW
        go_split_ands
        go_simp
      refine wpR_take (i := 5) (oi := _) (v := .agg #[.slice a2 l2 c2]) rfl (by kernel_rfl) (by kernel_rfl) (by kernel_rfl) (by kernel_rfl) (fun _ _ _ h => h) (Or.inl ⟨by rfl, ?_⟩) ⟨unhide HSa0, trivial⟩ ?_
      · intro W hW
        go_split_ands
        go_simp
      refine wpR_op (i := 2) (o := _) (by kernel_rfl) rfl rfl (fun K hK => ?_)
      go_simp
      refine (unhide HMU _ _ _ _ _ ((unhide HU5).later (Below.refl _ _).drew).i2 ((unhide HXa).later (Below.refl _ _).drew) (unhide HBD).p2 (unhide HBD).q).mono ?_
      rintro e wa1 ⟨va1, rfl, hv1, hb1⟩
      have HBa1 := hide ((Below.refl V5.heap.size V5).drew.trans hb1); obtain ⟨am, lm, cm, rfl⟩ := hv1.shape; have HVa1 := hide hv1; clear hv1 hb1; have HSa1 : Hid (wa1.cell? ⟨w.heap.size, 0, none⟩ = some (.slice a2 l2 c2) ∧ wa1.cell? ⟨g8, 0, none⟩ = some (.slice a' l' c') ∧ wa1.cell? ⟨g5, 0, none⟩ = some (.slice a5 l5 c5)) := ⟨((unhide HU5).later (unhide HBa1)).b2.c, ((unhide HB8a).later (unhide HBa1)).c, ((unhide HU5).later (unhide HBa1)).b5.c⟩
      refine hK _ _ ⟨unhide HSa1, trivial⟩ ?_
      clear hK K
      refine wpR_op (i := 4) (o := _) (by kernel_rfl) rfl rfl (fun K hK => ?_)
      go_simp
      refine (unhide HAD _ _ _ _ _ (unhide HVa1) ((unhide HU5).later (unhide HBa1)).i5 (mul_134 (unhide HBD).p2 (unhide HBD).q) (up_134 (unhide HBD).p5)).mono ?_
      rintro e wa2 ⟨va2, rfl, hv2, hb2⟩
      have HBa2 := hide ((unhide HBa1).trans (hb2.mono (unhide HBa1).size)); obtain ⟨ana, lna, cna, rfl⟩ := hv2.shape; have HVa2 := hide hv2; clear hv2 hb2; have HSa2 : Hid (wa2.cell? ⟨w.heap.size, 0, none⟩ = some (.slice a2 l2 c2) ∧ wa2.cell? ⟨g8, 0, none⟩ = some (.slice a' l' c') ∧ wa2.cell? ⟨g5, 0, none⟩ = some (.slice a5 l5 c5)) := ⟨((unhide HU5).later (unhide HBa2)).b2.c, ((unhide HB8a).later (unhide HBa2)).c, ((unhide HU5).later (unhide HBa2)).b5.c⟩
      refine hK _ _ ⟨unhide HSa2, trivial⟩ ?_
      clear hK K
      have HU6 := hide ((unhide HU5).later (unhide HBa2))
      have d2 := (unhide HU6).b2.c; have df2 := (unhide HU6).b2.f; have d5 := (unhide HU6).b5.c; have df5 := (unhide HU6).b5.f
      have hne1 : ¬ g5 = w.heap.size := by have h1 := (unhide HU6).l5; have h2 := (unhide HU6).l6; omega
      have hne2 : ¬ w.heap.size = g5 := by have h1 := (unhide HU6).l5; have h2 := (unhide HU6).l6; omega
      refine wpR_late (i := 6) (o := _) (by kernel_rfl) rfl rfl (by kernel_rfl) (fun K hK => ?_)
      go_simp
      refine hK _ _ trivial ?_
      clear hK K
      refine wpR_late (i := 7) (o := _) (by kernel_rfl) rfl rfl (by kernel_rfl) (fun K hK => ?_)
      go_simp
      refine hK _ _ trivial ?_
      clear hK K
      refine wpR_done (by kernel_rfl) ?_
      obtain ⟨V6, hV6⟩ : ∃ V6, V6 = (wa2.setCell { block := w.heap.size, off := 0 } (.slice ana lna cna)).setCell { block := g5, off := 0 } (.slice a2 l2 c2) := ⟨_, rfl⟩
      have HU7 : Hid (UB w V6 g5 g6 (.slice ana lna cna) (.slice a3 l3 c3) (.slice a2 l2 c2) (.slice a6 l6 c6) (p2 * q + p5) p3 p2 p6) := by rw [hV6]; exact (unhide HU6).set25 (unhide HVa2)
      have HB8b : Hid (Box V6 g8 (.slice a' l' c')) := by rw [hV6]; have h1 := (unhide HG8).1; have h2 := (unhide HG8).2.1; exact (((unhide HB8a).later (unhide HBa2)).other (by omega) _).other (by omega) _
      have HXb : Hid (IsBig V6 (.agg #[.slice a' l' c']) q) := by rw [hV6]; exact (((unhide HXa).later (unhide HBa2)).box _ d2 (sl_no _ _ _)).box _ ((unhide HU6).b5.other (by omega) _).c (sl_no _ _ _)
      rw [← hV6]
      clear hV6 d2 df2 d5 df5 hne1 hne2 HU5 HU6 HB8a HXa HSa0 HSa1 HSa2 HBa1 HBa2 HVa1 HVa2
      go_upto_region 7 with fail
      have HSb0 : Hid (V6.drew.cell? ⟨w.heap.size + 1, 0, none⟩ = some (.slice a3 l3 c3) ∧ V6.drew.cell? ⟨g8, 0, none⟩ = some (.slice a' l' c') ∧ V6.drew.cell? ⟨g6, 0, none⟩ = some (.slice a6 l6 c6)) := ⟨((unhide HU7).later ((Below.refl _ _).drew)).b3.c, ((unhide HB8b).later ((Below.refl _ _).drew)).c, ((unhide HU7).later ((Below.refl _ _).drew)).b6.c⟩
      refine region_reads 6 (fun W => W.cell? ⟨w.heap.size + 1, 0, none⟩ = some (.slice a3 l3 c3) ∧ W.cell? ⟨g8, 0, none⟩ = some (.slice a' l' c') ∧ W.cell? ⟨g6, 0, none⟩ = some (.slice a6 l6 c6)) (fun _ => True) 8 rfl (by kernel_rfl) ?_
      refine wpR_take (i := 0) (oi := _) (v := .agg #[.slice a3 l3 c3]) rfl (by kernel_rfl) (by kernel_rfl) (by kernel_rfl) (by kernel_rfl) (fun _ _ _ h => h) (Or.inl ⟨by rfl, ?_⟩) ⟨unhide HSb0, trivial⟩ ?_
      · intro W hW
        go_split_ands
        go_simp
      refine wpR_take (i := 1) (oi := _) (v := .agg #[.slice a' l' c']) rfl (by kernel_rfl) (by kernel_rfl) (by kernel_rfl) (by kernel_rfl) (fun _ _ _ h => h) (Or.inl ⟨by rfl, ?_⟩) ⟨unhide HSb0, trivial⟩ ?_
      · intro W hW
        go_split_ands
        go_simp
      refine wpR_take (i := 3) (oi := _) (v := .agg #[.slice a6 l6 c6]) rfl (by kernel_rfl) (by kernel_rfl) (by kernel_rfl) (by kernel_rfl) (fun _ _ _ h => h) (Or.inl ⟨by rfl, ?_⟩) ⟨unhide HSb0, trivial⟩ ?_
      · intro W hW
        go_split_ands
        go_simp
      refine wpR_take (i := 5) (oi := _) (v := .agg #[.slice a3 l3 c3]) rfl (by kernel_rfl) (by kernel_rfl) (by kernel_rfl) (by kernel_rfl) (fun _ _ _ h => h) (Or.inl ⟨by rfl, ?_⟩) ⟨unhide HSb0, trivial⟩ ?_
      · intro W hW
        go_split_ands
        go_simp
      refine wpR_op (i := 2) (o := _) (by kernel_rfl) rfl rfl (fun K hK => ?_)
      go_simp
      refine (unhide HMU _ _ _ _ _ ((unhide HU7).later (Below.refl _ _).drew).i3 ((unhide HXb).later (Below.refl _ _).drew) (unhide HBD).p3 (unhide HBD).q).mono ?_
      rintro e wb1 ⟨vb1, rfl, hv1, hb1⟩
      have HBb1 := hide ((Below.refl V6.heap.size V6).drew.trans hb1); obtain ⟨am, lm, cm, rfl⟩ := hv1.shape; have HVb1 := hide hv1; clear hv1 hb1; have HSb1 : Hid (wb1.cell? ⟨w.heap.size + 1, 0, none⟩ = some (.slice a3 l3 c3) ∧ wb1.cell? ⟨g8, 0, none⟩ = some (.slice a' l' c') ∧ wb1.cell? ⟨g6, 0, none⟩ = some (.slice a6 l6 c6)) := ⟨((unhide HU7).later (unhide HBb1)).b3.c, ((unhide HB8b).later (unhide HBb1)).c, ((unhide HU7).later (unhide HBb1)).b6.c⟩
      refine hK _ _ ⟨unhide HSb1, trivial⟩ ?_
      clear hK K
      refine wpR_op (i := 4) (o := _) (by kernel_rfl) rfl rfl (fun K hK => ?_)
      go_simp
      refine (unhide HAD _ _ _ _ _ (unhide HVb1) ((unhide HU7).later (unhide HBb1)).i6 (mul_134 (unhide HBD).p3 (unhide HBD).q) (up_134 (unhide HBD).p6)).mono ?_
      rintro e wb2 ⟨vb2, rfl, hv2, hb2⟩
      have HBb2 := hide ((unhide HBb1).trans (hb2.mono (unhide HBb1).size)); obtain ⟨anb, lnb, cnb, rfl⟩ := hv2.shape; have HVb2 := hide hv2; clear hv2 hb2; have HSb2 : Hid (wb2.cell? ⟨w.heap.size + 1, 0, none⟩ = some (.slice a3 l3 c3) ∧ wb2.cell? ⟨g8, 0, none⟩ = some (.slice a' l' c') ∧ wb2.cell? ⟨g6, 0, none⟩ = some (.slice a6 l6 c6)) := ⟨((unhide HU7).later (unhide HBb2)).b3.c, ((unhide HB8b).later (unhide HBb2)).c, ((unhide HU7).later (unhide HBb2)).b6.c⟩
      refine hK _ _ ⟨unhide HSb2, trivial⟩ ?_
      clear hK K
      have HU8 := hide ((unhide HU7).later (unhide HBb2))
      have d2 := (unhide HU8).b3.c; have df2 := (unhide HU8).b3.f; have d5 := (unhide HU8).b6.c; have df5 := (unhide HU8).b6.f
      have hne1 : ¬ g6 = w.heap.size + 1 := by have h1 := (unhide HU8).l5; have h2 := (unhide HU8).l6; omega
      have hne2 : ¬ w.heap.size + 1 = g6 := by have h1 := (unhide HU8).l5; have h2 := (unhide HU8).l6; omega
      refine wpR_late (i := 6) (o := _) (by kernel_rfl) rfl rfl (by kernel_rfl) (fun K hK => ?_)
      go_simp
      refine hK _ _ trivial ?_
      clear hK K
      refine wpR_late (i := 7) (o := _) (by kernel_rfl) rfl rfl (by kernel_rfl) (fun K hK => ?_)
      go_simp
      refine hK _ _ trivial ?_
      clear hK K
      refine wpR_done (by kernel_rfl) ?_
      obtain ⟨V8, hV8⟩ : ∃ V8, V8 = (wb2.setCell { block := w.heap.size + 1, off := 0 } (.slice anb lnb cnb)).setCell { block := g6, off := 0 } (.slice a3 l3 c3) := ⟨_, rfl⟩
      have HU9 : Hid (UB w V8 g5 g6 (.slice ana lna cna) (.slice anb lnb cnb) (.slice a2 l2 c2) (.slice a3 l3 c3) (p2 * q + p5) (p3 * q + p6) p2 p3) := by rw [hV8]; exact (unhide HU8).set36 (unhide HVb2)
      rw [← hV8]
      clear hV8 d2 df2 d5 df5 hne1 hne2 HU7 HU8 HB8b HXb HSb0 HSb1 HSb2 HBb1 HBb2 HVb1 HVb2
      have HL3 : Hid (p3 * q + p6 < 1000000000 ^ 135) := sum_135 (mul_134 (unhide HBD).p3 (unhide HBD).q) (up_134 (unhide HBD).p6)
      have d3 := (unhide HU9).b3.c
      obtain ⟨L, hL⟩ : ∃ L : Nat, L = Lib.nDigits (p3 * q + p6) := ⟨_, rfl⟩
      have HL87 := hide (fun W hx => unhide HLE W (.agg #[.slice anb lnb cnb]) (p3 * q + p6) hx (unhide HL3))
      rw [← hL] at HL87
      by_cases hbig : p3 * q + p6 < 10 ^ E
      · have HDG : Hid (L ≤ 600) := by
          rw [hL]
          refine (len600 _).2 ?_
          rw [unhide HE] at hbig
          exact hbig
        have HNB : Hid ((Cub.un (ns.take (k + 1))).2.1 < 10 ^ E) := by rw [unhide HNX]; exact hbig
        have hLL : ¬ (600 : Int) < (L : Int) := by have := unhide HDG; omega
        clear hL HDG HL3 HLE HMU HAD HG8 hbig
        go_wp2_with (go_at_call 89; go_must (refine (unhide HL87 _ (unhide HU9).i3).mono ?_; rintro e w9 ⟨rfl, hb9⟩; have HUA := hide ((unhide HU9).later hb9); clear hb9))
        go_roundw
        case rel =>
          refine ⟨k + 1, ana, lna, cna, anb, lnb, cnb, a2, l2, c2, a3, l3, c3, by omega, by go_num, ?_, unhide HNB⟩
          rw [unhide HNX]
          exact HUA
        case measure => simp [intOf]; omega
      · have HDG : Hid (¬ L ≤ 600) := by
          rw [hL]
          intro h
          have h2 := (len600 _).1 h
          rw [unhide HE] at hbig
          exact hbig h2
        have hLL : (600 : Int) < (L : Int) := by have := unhide HDG; omega
        clear hL HDG HL3 HLE HMU HAD HG8 hbig
        go_upto_region 9 with (go_at_call 89; go_must (refine (unhide HL87 _ (unhide HU9).i3).mono ?_; rintro e w9 ⟨rfl, hb9⟩; have HUA := hide ((unhide HU9).later hb9); clear hb9))
        have d2 := (unhide HUA).b2.c; have df2 := (unhide HUA).b2.f; have d3 := (unhide HUA).b3.c; have df3 := (unhide HUA).b3.f
        go_wp2_with fail
        have hx2 := ((unhide HUA).b2.set (.slice none 0 0)).other (k := w.heap.size + 1) (by omega) (.slice none 0 0)
        have hx3 := ((unhide HUA).b3.other (k := w.heap.size) (by omega) (.slice none 0 0)).set (.slice none 0 0)
        have hbb := ((unhide HUA).below.setCell (p := ⟨w.heap.size, 0, none⟩) (Nat.le_refl _) (.slice none 0 0)).setCell (p := ⟨w.heap.size + 1, 0, none⟩) (by simp) (.slice none 0 0)
        have e2 := hx2.c
        have e3 := hx3.c
        exact bodyPost_ret (v := .tuple #[.agg #[.slice none 0 0], .agg #[.slice none 0 0], .bool false]) (by simp [results, Tryz.results124, go_sem, e2, e3]) rfl ⟨rfl, hbb⟩
    · obtain rfl : k = ns.length := by omega
      exfalso
      have h1 := unhide HKB
      rw [List.take_length] at h1
      exact unhide HD h1

end Go.Proofs.YtndhinoomlofgaaGreatDoor

namespace Go.Proofs.YtndhinoomlofgaaGreatDoor
open Go.RowKit
/-- Both numbers in their boxes, and the result's. -/
structure SB (w W : World) (x1 x2 y1 y2 : Value) (a b c d : Nat) : Prop where
  bl : FBox W w.heap.size (.bool false) x1 x2
  bh : FBox W (w.heap.size + 1) (.bool false) y1 y2
  br : FBox W (w.heap.size + 1 + 1) (.bool false) (.slice none 0 0) (.slice none 0 0)
  ia : IsBig W (.agg #[x1]) a
  ib : IsBig W (.agg #[x2]) b
  ic : IsBig W (.agg #[y1]) c
  id' : IsBig W (.agg #[y2]) d
  below : Below w.heap.size w W
theorem SB.later {w W V : World} {x1 x2 y1 y2 : Value} {a b c d : Nat} (s : SB w W x1 x2 y1 y2 a b c d) (hb : Below W.heap.size W V) : SB w V x1 x2 y1 y2 a b c d :=
  ⟨s.bl.later hb, s.bh.later hb, s.br.later hb, s.ia.later hb, s.ib.later hb, s.ic.later hb, s.id'.later hb, s.below.trans (hb.mono s.below.size)⟩
/-- The whole parts found so far. -/
structure TR (W : World) (base : Nat) (v : Value) (vs : List Value) (pre : List Nat) : Prop where
  own : OwnN W base v vs
  len : vs.length = pre.length
  big : ∀ i (h : i < vs.length) (h' : i < pre.length), (∃ a l c, vs[i] = .slice a l c) ∧ IsBig W (.agg #[vs[i]]) pre[i]
theorem TR.later {W V : World} {base : Nat} {v : Value} {vs : List Value} {pre : List Nat} (s : TR W base v vs pre) (hb : Below W.heap.size W V) : TR V base v vs pre :=
  ⟨s.own.later hb, s.len, fun i h h' => ⟨(s.big i h h').1, (s.big i h h').2.later hb⟩⟩
theorem TR.nil (W : World) (base : Nat) : TR W base (.slice none 0 0) [] [] := ⟨OwnN.nil _ _, rfl, fun i h => by simp at h⟩
theorem TR.push {W W' : World} {base : Nat} {v v' : Value} {vs : List Value} {pre : List Nat} {a : Option Addr} {l c n : Nat} (s : TR W base v vs pre) (h : AppN W W' base v v' vs (.slice a l c)) (hx : IsBig W (.agg #[.slice a l c]) n) : TR W' base v' (vs ++ [.slice a l c]) (pre ++ [n]) := by
  refine ⟨h.own, by simp [s.len], fun i h1 h2 => ?_⟩
  have hl := s.len
  rcases Nat.lt_or_ge i vs.length with h3 | h3
  · rw [List.getElem_append_left h3, List.getElem_append_left (by omega)]
    exact ⟨(s.big i h3 (by omega)).1, h.big _ _ (s.big i h3 (by omega)).2⟩
  · obtain rfl : i = vs.length := by simp at h1; omega
    have e1 : (vs ++ [Value.slice a l c])[vs.length] = .slice a l c := by simp
    have e2 : (pre ++ [n])[vs.length] = n := by simp [hl]
    rw [e1, e2]
    exact ⟨⟨_, _, _, rfl⟩, h.big _ _ hx⟩
theorem SB.app {w W W' : World} {x1 x2 y1 y2 : Value} {a b c d base : Nat} {v v' : Value} {vs : List Value} {x : Value} (s : SB w W x1 x2 y1 y2 a b c d) (ho : OwnN W base v vs) (h : AppN W W' base v v' vs x) (hb : base = w.heap.size + 3) : SB w W' x1 x2 y1 y2 a b c d := by
  have hl := s.br.lt
  have ne : ∀ k, k < w.heap.size + 3 → some k ≠ v.ownBlock := fun k hk e => by have := (ho.lt k e.symm).1; omega
  have bx : ∀ k {u1 u2 u3 : Value}, k < w.heap.size + 3 → FBox W k u1 u2 u3 → FBox W' k u1 u2 u3 := fun k u1 u2 u3 hk f => by
    have hkl := f.lt
    have q := fun o => h.box (k := k) hkl (ne k hk) o
    exact ⟨(q 0).1.trans f.c0, (q 1).1.trans f.c1, (q 2).1.trans f.c2, (q 0).2.trans f.f0, (q 1).2.trans f.f1, (q 2).2.trans f.f2⟩
  exact ⟨bx _ (by omega) s.bl, bx _ (by omega) s.bh, bx _ (by omega) s.br, h.big _ _ s.ia, h.big _ _ s.ib, h.big _ _ s.ic, h.big _ _ s.id', h.below ho s.below (by omega) (by omega)⟩
/-- The boxes of one round. -/
structure RX (W : World) (v5 : Value) (g6 g7 g8 g9 : Nat) (u6 u7 u8 u9 : Value) (q r m o : Nat) : Prop where
  b6 : Box W g6 u6
  b7 : Box W g7 u7
  b8 : Box W g8 u8
  b9 : Box W g9 u9
  i6 : IsBig W (.agg #[u6]) q
  i7 : IsBig W (.agg #[u7]) r
  i8 : IsBig W (.agg #[u8]) m
  i9 : IsBig W (.agg #[u9]) o
  n6 : some g6 ≠ v5.ownBlock
  n7 : some g7 ≠ v5.ownBlock
  n9 : some g9 ≠ v5.ownBlock
theorem RX.later {W V : World} {v5 : Value} {g6 g7 g8 g9 : Nat} {u6 u7 u8 u9 : Value} {q r m o : Nat} (s : RX W v5 g6 g7 g8 g9 u6 u7 u8 u9 q r m o) (hb : Below W.heap.size W V) : RX V v5 g6 g7 g8 g9 u6 u7 u8 u9 q r m o :=
  ⟨s.b6.later hb, s.b7.later hb, s.b8.later hb, s.b9.later hb, s.i6.later hb, s.i7.later hb, s.i8.later hb, s.i9.later hb, s.n6, s.n7, s.n9⟩
theorem SB.step {w W : World} {a2 a4 a7 a9 : Option Addr} {l2 c2 l4 c4 l7 c7 l9 c9 : Nat} {x1 y1 : Value} {a b c d r o : Nat} {a1 a3 : Option Addr} {l1 c1 l3 c3 : Nat} (hx1 : x1 = .slice a1 l1 c1) (hy1 : y1 = .slice a3 l3 c3)
    (s : SB w W x1 (.slice a2 l2 c2) y1 (.slice a4 l4 c4) a b c d) (ho : IsBig W (.agg #[.slice a9 l9 c9]) o) (hr : IsBig W (.agg #[.slice a7 l7 c7]) r) :
    SB w (store3 (store3 W w.heap.size (.bool false) (.slice a4 l4 c4) (.slice a9 l9 c9)) (w.heap.size + 1) (.bool false) (.slice a2 l2 c2) (.slice a7 l7 c7)) (.slice a4 l4 c4) (.slice a9 l9 c9) (.slice a2 l2 c2) (.slice a7 l7 c7) d o b r := by
  subst hx1; subst hy1
  have f1 := s.bl.store (.bool false) (.slice a4 l4 c4) (.slice a9 l9 c9)
  have f2 := s.bh.other3 (k := w.heap.size) (by omega) (.bool false) (.slice a4 l4 c4) (.slice a9 l9 c9)
  have f3 := s.br.other3 (k := w.heap.size) (by omega) (.bool false) (.slice a4 l4 c4) (.slice a9 l9 c9)
  have t : ∀ {v n}, IsBig W v n → IsBig (store3 (store3 W w.heap.size (.bool false) (.slice a4 l4 c4) (.slice a9 l9 c9)) (w.heap.size + 1) (.bool false) (.slice a2 l2 c2) (.slice a7 l7 c7)) v n := fun h => f2.big _ _ _ (s.bl.big _ _ _ h)
  exact ⟨f1.other3 (by omega) _ _ _, f2.store _ _ _, f3.other3 (by omega) _ _ _, t s.id', t ho, t s.ib, t hr, below_store3 (below_store3 s.below (Nat.le_refl _) _ _ _) (by omega) _ _ _⟩
theorem TR.step {w W : World} {v : Value} {vs : List Value} {pre : List Nat} {g : Nat} {b : Bool} {a1 a2 : Option Addr} {l1 c1 l2 c2 : Nat} (s : TR W (w.heap.size + 3) v vs pre) (f : FBox W g (.bool b) (.slice a1 l1 c1) (.slice a2 l2 c2)) (hg : g < w.heap.size + 3) (x y z : Value) : TR (store3 W g x y z) (w.heap.size + 3) v vs pre :=
  ⟨((s.own.other ⟨g, 0, none⟩ x hg).other ⟨g, 1, none⟩ y hg).other ⟨g, 2, none⟩ z hg, s.len, fun i h h' => ⟨(s.big i h h').1, f.big _ _ _ (s.big i h h').2⟩⟩
/-- The first whole part, and what stands behind it. -/
structure TX (W : World) (g gn gd : Nat) (x un ud : Value) (t n d : Nat) : Prop where
  c0 : W.cell? ⟨g, 0, none⟩ = some x
  bn : Box W gn un
  bd : Box W gd ud
  ix : IsBig W (.agg #[x]) t
  in' : IsBig W (.agg #[un]) n
  id' : IsBig W (.agg #[ud]) d
theorem TX.later {W V : World} {g gn gd : Nat} {x un ud : Value} {t n d : Nat} (s : TX W g gn gd x un ud t n d) (hb : Below W.heap.size W V) : TX V g gn gd x un ud t n d :=
  ⟨(hb.cell (p := ⟨g, 0, none⟩) (World.block_lt_of_cell? _ _ s.c0)).trans s.c0, s.bn.later hb, s.bd.later hb, s.ix.later hb, s.in'.later hb, s.id'.later hb⟩
theorem pair_q {W : World} {s1 s2 : Value} {n d : Nat} (h1 : IsBig W (.agg #[s1]) n) (h2 : IsBig W (.agg #[s2]) d) (hd : 0 < d) (hg : Nat.gcd n d = 1) (b1 : n < 1000000000 ^ 67) (b2 : d < 1000000000 ^ 67) : QOf W (.agg #[.bool false, s1, s2]) (Cub.valQ false n d) 67 :=
  ⟨false, n, d, ⟨_, _, rfl, h1, h2⟩, ⟨hd, hg, fun h => by cases h⟩, rfl, b1, b2⟩
end Go.Proofs.YtndhinoomlofgaaGreatDoor

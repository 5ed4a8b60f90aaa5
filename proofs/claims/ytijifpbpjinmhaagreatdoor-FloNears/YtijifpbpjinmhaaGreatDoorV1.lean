/- The document's of (33). -/
import Derived.Test.YtijifpbpjinmhaaGreatDoorRefText2
import Derived.Test.YtijifpbpjinmhaaGreatDoorU7
import Derived.Test.YtijifpbpjinmhaaGreatDoorOrd
set_option maxHeartbeats 8000000
set_option maxRecDepth 100000
namespace Go.Proofs.YtijifpbpjinmhaaGreatDoor
open Go.RowKit
theorem FBox.setn {W : World} {g : Nat} {x y z : Value} (h : FBox W g x y z) (u : Value) : FBox (W.setCell ⟨g, 0, none⟩ u) g u y z := by
  have c0 := h.c0; have c1 := h.c1; have c2 := h.c2; have f0 := h.f0; have f1 := h.f1; have f2 := h.f2
  exact ⟨by simp [go_sem, *], by simp [go_sem, *], by simp [go_sem, *], by simp [go_sem, *], by simp [go_sem, *], by simp [go_sem, *]⟩
/-- What of holds: its answer's box and the number's. -/
structure OS (w W : World) (b : Bool) (ds den : ByteArray) : Prop where
  r : FBox W (w.heap.size + 1) (.bool false) (.string ⟨#[]⟩) (.string ⟨#[]⟩)
  x : FBox W (w.heap.size + 1 + 1) (.bool b) (.string ds) (.string den)
  b : Below w.heap.size w W
theorem OS.later {w W V : World} {b : Bool} {ds den : ByteArray} (h : OS w W b ds den) (hb : Below W.heap.size W V) : OS w V b ds den := ⟨h.r.later hb, h.x.later hb, h.b.trans (hb.mono h.b.size)⟩
theorem OS.drew {w W : World} {b : Bool} {ds den : ByteArray} (h : OS w W b ds den) : OS w W.drew b ds den := h.later (Below.refl _ _).drew
theorem OS.set0 {w W : World} {b : Bool} {ds den : ByteArray} (h : OS w W b ds den) (c : Bool) : OS w (W.setCell ⟨w.heap.size + 1 + 1, 0, none⟩ (.bool c)) c ds den := ⟨h.r.offset (by omega) _, h.x.setn _, h.b.setCell (p := ⟨w.heap.size + 1 + 1, 0, none⟩) (by show w.heap.size ≤ w.heap.size + 1 + 1; omega) _⟩
theorem OS.set1 {w W : World} {b : Bool} {ds den : ByteArray} (h : OS w W b ds den) (u : ByteArray) : OS w (W.setCell ⟨w.heap.size + 1 + 1, 1, none⟩ (.string u)) b u den := ⟨h.r.offset (by omega) _, h.x.setm _, h.b.setCell (p := ⟨w.heap.size + 1 + 1, 1, none⟩) (by show w.heap.size ≤ w.heap.size + 1 + 1; omega) _⟩
/-- How a number's text is split. -/
def Spl (num ds : ByteArray) (b : Bool) : Prop := (b = true ∧ 0 < num.size ∧ (∀ h : 0 < num.size, (num[0].toNat : Int) = 45) ∧ num.extract 1 num.size = ds) ∨ (b = false ∧ ds = num ∧ (0 < num.size ∧ ∀ h : 0 < num.size, ((num[0].toNat : Int) == 45) = false)) ∨ (b = false ∧ ds = num ∧ num.size = 0)
theorem of_early (num den ds : ByteArray) (b r1 r2 z1 z2 : Bool) (w : World) (hm : num.size ≤ 9223372036854775807) (hneg : Spl num ds b)
    (hz1 : (ds.toList == [48]) = z1) (hz2 : (den.toList == [48]) = z2)
    (hr1 : ∀ W : World, Calls Tryz.prog 79 #[.string ds] W fun e w' => e = .returned (.bool r1) ∧ w' = W) (hr2 : ∀ W : World, Calls Tryz.prog 79 #[.string den] W fun e w' => e = .returned (.bool r2) ∧ w' = W)
    (hc : r1 = false ∨ (r1 = true ∧ r2 = false) ∨ (r1 = true ∧ r2 = true ∧ z2 = true) ∨ (r1 = true ∧ r2 = true ∧ z2 = false ∧ b = true ∧ z1 = true)) :
    Calls Tryz.prog 33 #[.agg #[.string num, .string den]] w fun r w' => r = .returned (.tuple #[.agg #[.bool false, .string ⟨#[]⟩, .string ⟨#[]⟩], .bool false]) ∧ Below w.heap.size w w' := by
  obtain ⟨V, hV⟩ : ∃ V, V = ((w.alloc (.cells #[.string num, .string den] 23)).alloc (.cells #[.bool false, .string ⟨#[]⟩, .string ⟨#[]⟩] 56)).alloc (.cells #[.bool false, .string num, .string den] 56) := ⟨_, rfl⟩
  have HS0 : Hid (OS w V false num den) := by
    rw [hV]
    exact ⟨⟨by simp [go_sem], by simp [go_sem], by simp [go_sem], by simp [go_sem], by simp [go_sem], by simp [go_sem]⟩, ⟨by simp [go_sem], by simp [go_sem], by simp [go_sem], by simp [go_sem], by simp [go_sem], by simp [go_sem]⟩, (((Below.refl _ _).alloc (Nat.le_refl _) _).alloc (by simp) _).alloc (by simp; omega) _⟩
  have HV := hide hV
  have H1 := hide hr1; have H2 := hide hr2
  have HZ1 := hide hz1; have HZ2 := hide hz2
  clear hV hr1 hr2 hz1 hz2
  rcases hneg with ⟨rfl, hp, h45, hds⟩ | ⟨rfl, rfl, hp, h45⟩ | ⟨rfl, rfl, hp⟩
  · have h45' := h45 hp
    have hs' : (0 : Int) < (num.size : Int) := by omega
    have hs1 : (1 : Int) ≤ (num.size : Int) := by omega
    have HDS := hide hds
    clear hds h45
    go_enter Tryz.func33, Tryz.ntmps33
    go_upto_region 2 with fail
    rw [← unhide HV]
    clear HV
    have c0 := (unhide HS0).x.c0; have c1 := (unhide HS0).x.c1; have c2 := (unhide HS0).x.c2
    have f0 := (unhide HS0).x.f0; have f1 := (unhide HS0).x.f1
    go_upto_region 5 with fail
    rw [unhide HDS]
    have HS := hide (((unhide HS0).set0 true).set1 ds)
    generalize (V.setCell ⟨w.heap.size + 1 + 1, 0, none⟩ (.bool true)).setCell ⟨w.heap.size + 1 + 1, 1, none⟩ (.string ds) = U at *
    clear HDS HS0 c0 c1 c2 f0 f1 h45' hs' hs1
    have c0 := (unhide HS).x.c0; have c1 := (unhide HS).x.c1; have c2 := (unhide HS).x.c2
    have q0 := (unhide HS).r.c0; have q1 := (unhide HS).r.c1; have q2 := (unhide HS).r.c2; have g0 := (unhide HS).r.f0; have g1 := (unhide HS).r.f1; have g2 := (unhide HS).r.f2
    have hz1 := unhide HZ1; have hz2 := unhide HZ2
    rcases hc with rfl | ⟨rfl, rfl⟩ | ⟨rfl, rfl, rfl⟩ | ⟨rfl, rfl, rfl, hb, rfl⟩
    all_goals
      go_wp2_with (first
        | (go_at_call_of 79 (Value.string ds); refine (unhide H1 _).mono ?_; rintro e w1 ⟨rfl, hw⟩; obtain rfl : U = w1 := hw.symm)
        | (go_at_call 79; refine (unhide H2 _).mono ?_; rintro e w1 ⟨rfl, hw⟩; obtain rfl : U = w1 := hw.symm))
      have hS := (unhide HS).r.store (.bool false) (.string ⟨#[]⟩) (.string ⟨#[]⟩)
      have v0 := hS.c0; have v1 := hS.c1; have v2 := hS.c2
      exact bodyPost_ret (v := .tuple #[.agg #[.bool false, .string ⟨#[]⟩, .string ⟨#[]⟩], .bool false]) (w := store3 U (w.heap.size + 1) (.bool false) (.string ⟨#[]⟩) (.string ⟨#[]⟩)) (by simp [results, Tryz.results33, go_sem, v0, v1, v2]) rfl ⟨rfl, below_store3 (unhide HS).b (by omega) _ _ _⟩
  · have h45' := h45 hp
    have hs' : (0 : Int) < (ds.size : Int) := by omega
    clear h45
    go_enter Tryz.func33, Tryz.ntmps33
    go_upto_region 2 with fail
    rw [← unhide HV]
    clear HV
    have c0 := (unhide HS0).x.c0; have c1 := (unhide HS0).x.c1; have c2 := (unhide HS0).x.c2
    have f0 := (unhide HS0).x.f0; have f1 := (unhide HS0).x.f1
    go_upto_region 5 with fail
    have HS := HS0
    generalize V = U at *
    clear HS0 c0 c1 c2 f0 f1 h45' hs'
    have c0 := (unhide HS).x.c0; have c1 := (unhide HS).x.c1; have c2 := (unhide HS).x.c2
    have q0 := (unhide HS).r.c0; have q1 := (unhide HS).r.c1; have q2 := (unhide HS).r.c2; have g0 := (unhide HS).r.f0; have g1 := (unhide HS).r.f1; have g2 := (unhide HS).r.f2
    have hz1 := unhide HZ1; have hz2 := unhide HZ2
    rcases hc with rfl | ⟨rfl, rfl⟩ | ⟨rfl, rfl, rfl⟩ | ⟨_, _, _, hb, _⟩
    rotate_left 3
    · cases hb
    all_goals
      go_wp2_with (first
        | (go_at_call_of 79 (Value.string ds); refine (unhide H1 _).mono ?_; rintro e w1 ⟨rfl, hw⟩; obtain rfl : U = w1 := hw.symm)
        | (go_at_call 79; refine (unhide H2 _).mono ?_; rintro e w1 ⟨rfl, hw⟩; obtain rfl : U = w1 := hw.symm))
      have hS := (unhide HS).r.store (.bool false) (.string ⟨#[]⟩) (.string ⟨#[]⟩)
      have v0 := hS.c0; have v1 := hS.c1; have v2 := hS.c2
      exact bodyPost_ret (v := .tuple #[.agg #[.bool false, .string ⟨#[]⟩, .string ⟨#[]⟩], .bool false]) (w := store3 U (w.heap.size + 1) (.bool false) (.string ⟨#[]⟩) (.string ⟨#[]⟩)) (by simp [results, Tryz.results33, go_sem, v0, v1, v2]) rfl ⟨rfl, below_store3 (unhide HS).b (by omega) _ _ _⟩
  · have hz0 : (ds.size : Int) = 0 := by omega
    go_enter Tryz.func33, Tryz.ntmps33
    go_upto_region 2 with fail
    rw [← unhide HV]
    clear HV
    have c0 := (unhide HS0).x.c0; have c1 := (unhide HS0).x.c1; have c2 := (unhide HS0).x.c2
    have f0 := (unhide HS0).x.f0; have f1 := (unhide HS0).x.f1
    go_upto_region 5 with fail
    have HS := HS0
    generalize V = U at *
    clear HS0 c0 c1 c2 f0 f1 hz0 hp
    have c0 := (unhide HS).x.c0; have c1 := (unhide HS).x.c1; have c2 := (unhide HS).x.c2
    have q0 := (unhide HS).r.c0; have q1 := (unhide HS).r.c1; have q2 := (unhide HS).r.c2; have g0 := (unhide HS).r.f0; have g1 := (unhide HS).r.f1; have g2 := (unhide HS).r.f2
    have hz1 := unhide HZ1; have hz2 := unhide HZ2
    rcases hc with rfl | ⟨rfl, rfl⟩ | ⟨rfl, rfl, rfl⟩ | ⟨_, _, _, hb, _⟩
    rotate_left 3
    · cases hb
    all_goals
      go_wp2_with (first
        | (go_at_call_of 79 (Value.string ds); refine (unhide H1 _).mono ?_; rintro e w1 ⟨rfl, hw⟩; obtain rfl : U = w1 := hw.symm)
        | (go_at_call 79; refine (unhide H2 _).mono ?_; rintro e w1 ⟨rfl, hw⟩; obtain rfl : U = w1 := hw.symm))
      have hS := (unhide HS).r.store (.bool false) (.string ⟨#[]⟩) (.string ⟨#[]⟩)
      have v0 := hS.c0; have v1 := hS.c1; have v2 := hS.c2
      exact bodyPost_ret (v := .tuple #[.agg #[.bool false, .string ⟨#[]⟩, .string ⟨#[]⟩], .bool false]) (w := store3 U (w.heap.size + 1) (.bool false) (.string ⟨#[]⟩) (.string ⟨#[]⟩)) (by simp [results, Tryz.results33, go_sem, v0, v1, v2]) rfl ⟨rfl, below_store3 (unhide HS).b (by omega) _ _ _⟩
theorem of_late (num den ds tg : ByteArray) (b r1 r2 z1 z2 : Bool) (w : World) (hm : num.size ≤ 9223372036854775807) (hneg : Spl num ds b)
    (hz1 : (ds.toList == [48]) = z1) (hz2 : (den.toList == [48]) = z2)
    (hr1 : ∀ W : World, Calls Tryz.prog 79 #[.string ds] W fun e w' => e = .returned (.bool r1) ∧ w' = W) (hr2 : ∀ W : World, Calls Tryz.prog 79 #[.string den] W fun e w' => e = .returned (.bool r2) ∧ w' = W)
    (hc : r1 = true ∧ r2 = true ∧ z2 = false ∧ (b = false ∨ z1 = false)) (c : Bool) (hcc : (tg.toList == [49]) = c) (hcom : ∀ W : World, Calls Tryz.prog 80 #[.string ds, .string den] W fun e w' => e = .returned (.string tg) ∧ Below W.heap.size W w') :
    Calls Tryz.prog 33 #[.agg #[.string num, .string den]] w fun r w' => r = .returned (.tuple #[.agg #[.bool b, .string ds, .string den], .bool c]) ∧ Below w.heap.size w w' := by
  obtain ⟨V, hV⟩ : ∃ V, V = ((w.alloc (.cells #[.string num, .string den] 23)).alloc (.cells #[.bool false, .string ⟨#[]⟩, .string ⟨#[]⟩] 56)).alloc (.cells #[.bool false, .string num, .string den] 56) := ⟨_, rfl⟩
  have HS0 : Hid (OS w V false num den) := by
    rw [hV]
    exact ⟨⟨by simp [go_sem], by simp [go_sem], by simp [go_sem], by simp [go_sem], by simp [go_sem], by simp [go_sem]⟩, ⟨by simp [go_sem], by simp [go_sem], by simp [go_sem], by simp [go_sem], by simp [go_sem], by simp [go_sem]⟩, (((Below.refl _ _).alloc (Nat.le_refl _) _).alloc (by simp) _).alloc (by simp; omega) _⟩
  have HV := hide hV
  have H1 := hide hr1; have H2 := hide hr2
  have HZ1 := hide hz1; have HZ2 := hide hz2
  clear hV hr1 hr2 hz1 hz2
  have HCOM := hide hcom
  have HCC := hide hcc
  clear hcom hcc
  rcases hneg with ⟨rfl, hp, h45, hds⟩ | ⟨rfl, rfl, hp, h45⟩ | ⟨rfl, rfl, hp⟩
  · have h45' := h45 hp
    have hs' : (0 : Int) < (num.size : Int) := by omega
    have hs1 : (1 : Int) ≤ (num.size : Int) := by omega
    have HDS := hide hds
    clear hds h45
    go_enter Tryz.func33, Tryz.ntmps33
    go_upto_region 2 with fail
    rw [← unhide HV]
    clear HV
    have c0 := (unhide HS0).x.c0; have c1 := (unhide HS0).x.c1; have c2 := (unhide HS0).x.c2
    have f0 := (unhide HS0).x.f0; have f1 := (unhide HS0).x.f1
    go_upto_region 5 with fail
    rw [unhide HDS]
    have HS := hide (((unhide HS0).set0 true).set1 ds)
    generalize (V.setCell ⟨w.heap.size + 1 + 1, 0, none⟩ (.bool true)).setCell ⟨w.heap.size + 1 + 1, 1, none⟩ (.string ds) = U at *
    clear HDS HS0 c0 c1 c2 f0 f1 h45' hs' hs1
    have c0 := (unhide HS).x.c0; have c1 := (unhide HS).x.c1; have c2 := (unhide HS).x.c2
    have q0 := (unhide HS).r.c0; have q1 := (unhide HS).r.c1; have q2 := (unhide HS).r.c2; have g0 := (unhide HS).r.f0; have g1 := (unhide HS).r.f1; have g2 := (unhide HS).r.f2
    have hz1 := unhide HZ1; have hz2 := unhide HZ2
    obtain ⟨rfl, rfl, rfl, hb⟩ := hc
    obtain rfl : z1 = false := hb.resolve_left (by decide)
    go_upto_region 7 with (first
        | (go_at_call_of 79 (Value.string ds); refine (unhide H1 _).mono ?_; rintro e w1 ⟨rfl, hw⟩; obtain rfl : U = w1 := hw.symm)
        | (go_at_call 79; refine (unhide H2 _).mono ?_; rintro e w1 ⟨rfl, hw⟩; obtain rfl : U = w1 := hw.symm))
    have HS1 := hide (unhide HS).drew
    have HSS : Hid (∀ W' : World, OS w W' true ds den → W'.cell? ⟨w.heap.size + 1 + 1, 0, none⟩ = some (.bool true) ∧ W'.cell? ⟨w.heap.size + 1 + 1, 1, none⟩ = some (.string ds) ∧ W'.cell? ⟨w.heap.size + 1 + 1, 2, none⟩ = some (.string den)) := fun W' h => ⟨h.x.c0, h.x.c1, h.x.c2⟩
    refine region_reads 7 (fun W' => W'.cell? ⟨w.heap.size + 1 + 1, 0, none⟩ = some (.bool true) ∧ W'.cell? ⟨w.heap.size + 1 + 1, 1, none⟩ = some (.string ds) ∧ W'.cell? ⟨w.heap.size + 1 + 1, 2, none⟩ = some (.string den)) (fun W' => W'.cell? ⟨w.heap.size + 1 + 1, 0, none⟩ = some (.bool true) ∧ W'.cell? ⟨w.heap.size + 1 + 1, 1, none⟩ = some (.string ds) ∧ W'.cell? ⟨w.heap.size + 1 + 1, 2, none⟩ = some (.string den)) 9 rfl (by kernel_rfl) ?_
    clear HS c0 c1 c2 q0 q1 q2 g0 g1 g2
    generalize U.drew = U1 at *
    have HC1 := hide (unhide HSS _ (unhide HS1))
    refine wpR_take7 (i := 0) (oi := _) (v := .agg #[.bool true, .string ds, .string den]) rfl (by kernel_rfl) (by kernel_rfl) (by kernel_rfl) (by kernel_rfl) (fun _ _ _ h => h) (Or.inl ⟨by rfl, ?_⟩) ⟨unhide HC1, unhide HC1⟩ ?_
    · intro W hW
      go_split_ands
      go_simp
    refine wpR_take7 (i := 1) (oi := _) (v := .pointer (some ⟨w.heap.size + 1 + 1, 1, none⟩)) rfl (by kernel_rfl) (by kernel_rfl) (by kernel_rfl) (by kernel_rfl) (fun _ _ _ h => h) (Or.inl ⟨by rfl, ?_⟩) ⟨unhide HC1, unhide HC1⟩ ?_
    · intro W hW
      go_split_ands
      go_simp
    refine wpR_take7 (i := 2) (oi := _) (v := .string ds) rfl (by kernel_rfl) (by kernel_rfl) (by kernel_rfl) (by kernel_rfl) (fun _ _ _ h => h) (Or.inl ⟨by rfl, ?_⟩) ⟨unhide HC1, unhide HC1⟩ ?_
    · intro W hW
      go_split_ands
      go_simp
    refine wpR_take7 (i := 3) (oi := _) (v := .pointer (some ⟨w.heap.size + 1 + 1, 2, none⟩)) rfl (by kernel_rfl) (by kernel_rfl) (by kernel_rfl) (by kernel_rfl) (fun _ _ _ h => h) (Or.inl ⟨by rfl, ?_⟩) ⟨unhide HC1, unhide HC1⟩ ?_
    · intro W hW
      go_split_ands
      go_simp
    refine wpR_take7 (i := 4) (oi := _) (v := .string den) rfl (by kernel_rfl) (by kernel_rfl) (by kernel_rfl) (by kernel_rfl) (fun _ _ _ h => h) (Or.inl ⟨by rfl, ?_⟩) ⟨unhide HC1, unhide HC1⟩ ?_
    · intro W hW
      go_split_ands
      go_simp
    refine wpR_op (i := 5) (o := _) (by kernel_rfl) rfl rfl (fun K hK => ?_)
    go_simp
    refine (unhide HCOM _).mono ?_
    rintro e U2 ⟨rfl, hb2⟩
    have HS2 := hide ((unhide HS1).later hb2)
    clear hb2 HS1 HC1
    have HC2 := hide (unhide HSS _ (unhide HS2))
    refine hK _ _ ⟨unhide HC2, unhide HC2⟩ ?_
    clear hK K
    have hcc' := unhide HCC
    refine wpR_take7 (i := 6) (oi := _) (v := .bool c) rfl (by kernel_rfl) (by kernel_rfl) (by kernel_rfl) (by kernel_rfl) (fun _ _ _ h => h) (Or.inl ⟨by rfl, ?_⟩) ⟨unhide HC2, unhide HC2⟩ ?_
    · intro W hW
      go_simp
    clear hcc'
    have q0 := (unhide HS2).r.c0; have q1 := (unhide HS2).r.c1; have q2 := (unhide HS2).r.c2; have g0 := (unhide HS2).r.f0; have g1 := (unhide HS2).r.f1; have g2 := (unhide HS2).r.f2
    refine wpR_late (i := 7) (o := _) (by kernel_rfl) rfl rfl (by kernel_rfl) (fun K hK => ?_)
    go_simp
    have hx3 := (((unhide HS2).x.offset (k := w.heap.size + 1) (o := 0) (by omega) (.bool true)).offset (k := w.heap.size + 1) (o := 1) (by omega) (.string ds)).offset (k := w.heap.size + 1) (o := 2) (by omega) (.string den)
    refine hK _ _ ⟨hx3.c0, hx3.c1, hx3.c2⟩ ?_
    clear hK K
    refine wpR_late (i := 8) (o := _) (by kernel_rfl) rfl rfl (by kernel_rfl) (fun K hK => ?_)
    go_simp
    refine hK _ _ ⟨hx3.c0, hx3.c1, hx3.c2⟩ ?_
    clear hK K hx3
    refine wpR_done (by kernel_rfl) ?_
    have hS := (unhide HS2).r.store (.bool true) (.string ds) (.string den)
    have v0 := hS.c0; have v1 := hS.c1; have v2 := hS.c2
    clear q0 q1 q2 g0 g1 g2
    go_wp2_with fail
    exact bodyPost_ret (v := .tuple #[.agg #[.bool true, .string ds, .string den], .bool c]) (w := store3 U2 (w.heap.size + 1) (.bool true) (.string ds) (.string den)) (by simp [results, Tryz.results33, go_sem, v0, v1, v2]) rfl ⟨rfl, below_store3 (unhide HS2).b (by omega) _ _ _⟩
  · have h45' := h45 hp
    have hs' : (0 : Int) < (ds.size : Int) := by omega
    clear h45
    go_enter Tryz.func33, Tryz.ntmps33
    go_upto_region 2 with fail
    rw [← unhide HV]
    clear HV
    have c0 := (unhide HS0).x.c0; have c1 := (unhide HS0).x.c1; have c2 := (unhide HS0).x.c2
    have f0 := (unhide HS0).x.f0; have f1 := (unhide HS0).x.f1
    go_upto_region 5 with fail
    have HS := HS0
    generalize V = U at *
    clear HS0 c0 c1 c2 f0 f1 h45' hs'
    have c0 := (unhide HS).x.c0; have c1 := (unhide HS).x.c1; have c2 := (unhide HS).x.c2
    have q0 := (unhide HS).r.c0; have q1 := (unhide HS).r.c1; have q2 := (unhide HS).r.c2; have g0 := (unhide HS).r.f0; have g1 := (unhide HS).r.f1; have g2 := (unhide HS).r.f2
    have hz1 := unhide HZ1; have hz2 := unhide HZ2
    obtain ⟨rfl, rfl, rfl, hb⟩ := hc
    go_upto_region 7 with (first
        | (go_at_call_of 79 (Value.string ds); refine (unhide H1 _).mono ?_; rintro e w1 ⟨rfl, hw⟩; obtain rfl : U = w1 := hw.symm)
        | (go_at_call 79; refine (unhide H2 _).mono ?_; rintro e w1 ⟨rfl, hw⟩; obtain rfl : U = w1 := hw.symm))
    have HS1 := hide (unhide HS).drew
    have HSS : Hid (∀ W' : World, OS w W' false ds den → W'.cell? ⟨w.heap.size + 1 + 1, 0, none⟩ = some (.bool false) ∧ W'.cell? ⟨w.heap.size + 1 + 1, 1, none⟩ = some (.string ds) ∧ W'.cell? ⟨w.heap.size + 1 + 1, 2, none⟩ = some (.string den)) := fun W' h => ⟨h.x.c0, h.x.c1, h.x.c2⟩
    refine region_reads 7 (fun W' => W'.cell? ⟨w.heap.size + 1 + 1, 0, none⟩ = some (.bool false) ∧ W'.cell? ⟨w.heap.size + 1 + 1, 1, none⟩ = some (.string ds) ∧ W'.cell? ⟨w.heap.size + 1 + 1, 2, none⟩ = some (.string den)) (fun W' => W'.cell? ⟨w.heap.size + 1 + 1, 0, none⟩ = some (.bool false) ∧ W'.cell? ⟨w.heap.size + 1 + 1, 1, none⟩ = some (.string ds) ∧ W'.cell? ⟨w.heap.size + 1 + 1, 2, none⟩ = some (.string den)) 9 rfl (by kernel_rfl) ?_
    clear HS c0 c1 c2 q0 q1 q2 g0 g1 g2
    generalize U.drew = U1 at *
    have HC1 := hide (unhide HSS _ (unhide HS1))
    refine wpR_take7 (i := 0) (oi := _) (v := .agg #[.bool false, .string ds, .string den]) rfl (by kernel_rfl) (by kernel_rfl) (by kernel_rfl) (by kernel_rfl) (fun _ _ _ h => h) (Or.inl ⟨by rfl, ?_⟩) ⟨unhide HC1, unhide HC1⟩ ?_
    · intro W hW
      go_split_ands
      go_simp
    refine wpR_take7 (i := 1) (oi := _) (v := .pointer (some ⟨w.heap.size + 1 + 1, 1, none⟩)) rfl (by kernel_rfl) (by kernel_rfl) (by kernel_rfl) (by kernel_rfl) (fun _ _ _ h => h) (Or.inl ⟨by rfl, ?_⟩) ⟨unhide HC1, unhide HC1⟩ ?_
    · intro W hW
      go_split_ands
      go_simp
    refine wpR_take7 (i := 2) (oi := _) (v := .string ds) rfl (by kernel_rfl) (by kernel_rfl) (by kernel_rfl) (by kernel_rfl) (fun _ _ _ h => h) (Or.inl ⟨by rfl, ?_⟩) ⟨unhide HC1, unhide HC1⟩ ?_
    · intro W hW
      go_split_ands
      go_simp
    refine wpR_take7 (i := 3) (oi := _) (v := .pointer (some ⟨w.heap.size + 1 + 1, 2, none⟩)) rfl (by kernel_rfl) (by kernel_rfl) (by kernel_rfl) (by kernel_rfl) (fun _ _ _ h => h) (Or.inl ⟨by rfl, ?_⟩) ⟨unhide HC1, unhide HC1⟩ ?_
    · intro W hW
      go_split_ands
      go_simp
    refine wpR_take7 (i := 4) (oi := _) (v := .string den) rfl (by kernel_rfl) (by kernel_rfl) (by kernel_rfl) (by kernel_rfl) (fun _ _ _ h => h) (Or.inl ⟨by rfl, ?_⟩) ⟨unhide HC1, unhide HC1⟩ ?_
    · intro W hW
      go_split_ands
      go_simp
    refine wpR_op (i := 5) (o := _) (by kernel_rfl) rfl rfl (fun K hK => ?_)
    go_simp
    refine (unhide HCOM _).mono ?_
    rintro e U2 ⟨rfl, hb2⟩
    have HS2 := hide ((unhide HS1).later hb2)
    clear hb2 HS1 HC1
    have HC2 := hide (unhide HSS _ (unhide HS2))
    refine hK _ _ ⟨unhide HC2, unhide HC2⟩ ?_
    clear hK K
    have hcc' := unhide HCC
    refine wpR_take7 (i := 6) (oi := _) (v := .bool c) rfl (by kernel_rfl) (by kernel_rfl) (by kernel_rfl) (by kernel_rfl) (fun _ _ _ h => h) (Or.inl ⟨by rfl, ?_⟩) ⟨unhide HC2, unhide HC2⟩ ?_
    · intro W hW
      go_simp
    clear hcc'
    have q0 := (unhide HS2).r.c0; have q1 := (unhide HS2).r.c1; have q2 := (unhide HS2).r.c2; have g0 := (unhide HS2).r.f0; have g1 := (unhide HS2).r.f1; have g2 := (unhide HS2).r.f2
    refine wpR_late (i := 7) (o := _) (by kernel_rfl) rfl rfl (by kernel_rfl) (fun K hK => ?_)
    go_simp
    have hx3 := (((unhide HS2).x.offset (k := w.heap.size + 1) (o := 0) (by omega) (.bool false)).offset (k := w.heap.size + 1) (o := 1) (by omega) (.string ds)).offset (k := w.heap.size + 1) (o := 2) (by omega) (.string den)
    refine hK _ _ ⟨hx3.c0, hx3.c1, hx3.c2⟩ ?_
    clear hK K
    refine wpR_late (i := 8) (o := _) (by kernel_rfl) rfl rfl (by kernel_rfl) (fun K hK => ?_)
    go_simp
    refine hK _ _ ⟨hx3.c0, hx3.c1, hx3.c2⟩ ?_
    clear hK K hx3
    refine wpR_done (by kernel_rfl) ?_
    have hS := (unhide HS2).r.store (.bool false) (.string ds) (.string den)
    have v0 := hS.c0; have v1 := hS.c1; have v2 := hS.c2
    clear q0 q1 q2 g0 g1 g2
    go_wp2_with fail
    exact bodyPost_ret (v := .tuple #[.agg #[.bool false, .string ds, .string den], .bool c]) (w := store3 U2 (w.heap.size + 1) (.bool false) (.string ds) (.string den)) (by simp [results, Tryz.results33, go_sem, v0, v1, v2]) rfl ⟨rfl, below_store3 (unhide HS2).b (by omega) _ _ _⟩
  · have hz0 : (ds.size : Int) = 0 := by omega
    go_enter Tryz.func33, Tryz.ntmps33
    go_upto_region 2 with fail
    rw [← unhide HV]
    clear HV
    have c0 := (unhide HS0).x.c0; have c1 := (unhide HS0).x.c1; have c2 := (unhide HS0).x.c2
    have f0 := (unhide HS0).x.f0; have f1 := (unhide HS0).x.f1
    go_upto_region 5 with fail
    have HS := HS0
    generalize V = U at *
    clear HS0 c0 c1 c2 f0 f1 hz0 hp
    have c0 := (unhide HS).x.c0; have c1 := (unhide HS).x.c1; have c2 := (unhide HS).x.c2
    have q0 := (unhide HS).r.c0; have q1 := (unhide HS).r.c1; have q2 := (unhide HS).r.c2; have g0 := (unhide HS).r.f0; have g1 := (unhide HS).r.f1; have g2 := (unhide HS).r.f2
    have hz1 := unhide HZ1; have hz2 := unhide HZ2
    obtain ⟨rfl, rfl, rfl, hb⟩ := hc
    go_upto_region 7 with (first
        | (go_at_call_of 79 (Value.string ds); refine (unhide H1 _).mono ?_; rintro e w1 ⟨rfl, hw⟩; obtain rfl : U = w1 := hw.symm)
        | (go_at_call 79; refine (unhide H2 _).mono ?_; rintro e w1 ⟨rfl, hw⟩; obtain rfl : U = w1 := hw.symm))
    have HS1 := hide (unhide HS).drew
    have HSS : Hid (∀ W' : World, OS w W' false ds den → W'.cell? ⟨w.heap.size + 1 + 1, 0, none⟩ = some (.bool false) ∧ W'.cell? ⟨w.heap.size + 1 + 1, 1, none⟩ = some (.string ds) ∧ W'.cell? ⟨w.heap.size + 1 + 1, 2, none⟩ = some (.string den)) := fun W' h => ⟨h.x.c0, h.x.c1, h.x.c2⟩
    refine region_reads 7 (fun W' => W'.cell? ⟨w.heap.size + 1 + 1, 0, none⟩ = some (.bool false) ∧ W'.cell? ⟨w.heap.size + 1 + 1, 1, none⟩ = some (.string ds) ∧ W'.cell? ⟨w.heap.size + 1 + 1, 2, none⟩ = some (.string den)) (fun W' => W'.cell? ⟨w.heap.size + 1 + 1, 0, none⟩ = some (.bool false) ∧ W'.cell? ⟨w.heap.size + 1 + 1, 1, none⟩ = some (.string ds) ∧ W'.cell? ⟨w.heap.size + 1 + 1, 2, none⟩ = some (.string den)) 9 rfl (by kernel_rfl) ?_
    clear HS c0 c1 c2 q0 q1 q2 g0 g1 g2
    generalize U.drew = U1 at *
    have HC1 := hide (unhide HSS _ (unhide HS1))
    refine wpR_take7 (i := 0) (oi := _) (v := .agg #[.bool false, .string ds, .string den]) rfl (by kernel_rfl) (by kernel_rfl) (by kernel_rfl) (by kernel_rfl) (fun _ _ _ h => h) (Or.inl ⟨by rfl, ?_⟩) ⟨unhide HC1, unhide HC1⟩ ?_
    · intro W hW
      go_split_ands
      go_simp
    refine wpR_take7 (i := 1) (oi := _) (v := .pointer (some ⟨w.heap.size + 1 + 1, 1, none⟩)) rfl (by kernel_rfl) (by kernel_rfl) (by kernel_rfl) (by kernel_rfl) (fun _ _ _ h => h) (Or.inl ⟨by rfl, ?_⟩) ⟨unhide HC1, unhide HC1⟩ ?_
    · intro W hW
      go_split_ands
      go_simp
    refine wpR_take7 (i := 2) (oi := _) (v := .string ds) rfl (by kernel_rfl) (by kernel_rfl) (by kernel_rfl) (by kernel_rfl) (fun _ _ _ h => h) (Or.inl ⟨by rfl, ?_⟩) ⟨unhide HC1, unhide HC1⟩ ?_
    · intro W hW
      go_split_ands
      go_simp
    refine wpR_take7 (i := 3) (oi := _) (v := .pointer (some ⟨w.heap.size + 1 + 1, 2, none⟩)) rfl (by kernel_rfl) (by kernel_rfl) (by kernel_rfl) (by kernel_rfl) (fun _ _ _ h => h) (Or.inl ⟨by rfl, ?_⟩) ⟨unhide HC1, unhide HC1⟩ ?_
    · intro W hW
      go_split_ands
      go_simp
    refine wpR_take7 (i := 4) (oi := _) (v := .string den) rfl (by kernel_rfl) (by kernel_rfl) (by kernel_rfl) (by kernel_rfl) (fun _ _ _ h => h) (Or.inl ⟨by rfl, ?_⟩) ⟨unhide HC1, unhide HC1⟩ ?_
    · intro W hW
      go_split_ands
      go_simp
    refine wpR_op (i := 5) (o := _) (by kernel_rfl) rfl rfl (fun K hK => ?_)
    go_simp
    refine (unhide HCOM _).mono ?_
    rintro e U2 ⟨rfl, hb2⟩
    have HS2 := hide ((unhide HS1).later hb2)
    clear hb2 HS1 HC1
    have HC2 := hide (unhide HSS _ (unhide HS2))
    refine hK _ _ ⟨unhide HC2, unhide HC2⟩ ?_
    clear hK K
    have hcc' := unhide HCC
    refine wpR_take7 (i := 6) (oi := _) (v := .bool c) rfl (by kernel_rfl) (by kernel_rfl) (by kernel_rfl) (by kernel_rfl) (fun _ _ _ h => h) (Or.inl ⟨by rfl, ?_⟩) ⟨unhide HC2, unhide HC2⟩ ?_
    · intro W hW
      go_simp
    clear hcc'
    have q0 := (unhide HS2).r.c0; have q1 := (unhide HS2).r.c1; have q2 := (unhide HS2).r.c2; have g0 := (unhide HS2).r.f0; have g1 := (unhide HS2).r.f1; have g2 := (unhide HS2).r.f2
    refine wpR_late (i := 7) (o := _) (by kernel_rfl) rfl rfl (by kernel_rfl) (fun K hK => ?_)
    go_simp
    have hx3 := (((unhide HS2).x.offset (k := w.heap.size + 1) (o := 0) (by omega) (.bool false)).offset (k := w.heap.size + 1) (o := 1) (by omega) (.string ds)).offset (k := w.heap.size + 1) (o := 2) (by omega) (.string den)
    refine hK _ _ ⟨hx3.c0, hx3.c1, hx3.c2⟩ ?_
    clear hK K
    refine wpR_late (i := 8) (o := _) (by kernel_rfl) rfl rfl (by kernel_rfl) (fun K hK => ?_)
    go_simp
    refine hK _ _ ⟨hx3.c0, hx3.c1, hx3.c2⟩ ?_
    clear hK K hx3
    refine wpR_done (by kernel_rfl) ?_
    have hS := (unhide HS2).r.store (.bool false) (.string ds) (.string den)
    have v0 := hS.c0; have v1 := hS.c1; have v2 := hS.c2
    clear q0 q1 q2 g0 g1 g2
    go_wp2_with fail
    exact bodyPost_ret (v := .tuple #[.agg #[.bool false, .string ds, .string den], .bool c]) (w := store3 U2 (w.heap.size + 1) (.bool false) (.string ds) (.string den)) (by simp [results, Tryz.results33, go_sem, v0, v1, v2]) rfl ⟨rfl, below_store3 (unhide HS2).b (by omega) _ _ _⟩
end Go.Proofs.YtijifpbpjinmhaaGreatDoor

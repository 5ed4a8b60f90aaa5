/- The law DimBack: any dimension's text is read as it; kinds there and back. -/
import Derived.Test.YtccnbnfafhpeaaaDoorBack
import Derived.Test.YtccnbnfafhpeaaaDoorGroupOps
namespace Go.Proofs.YtccnbnfafhpeaaaDoor
open Go.RowKit

theorem small99 (x0 x1 x2 x3 x4 x5 x6 x7 : Int) (w : World) : Calls Tryd.prog 30 #[.agg #[.int .i64 x0, .int .i64 x1, .int .i64 x2, .int .i64 x3, .int .i64 x4, .int .i64 x5, .int .i64 x6, .int .i64 x7], .int .i64 99] w fun e w' => ∃ a0 a1 a2 a3 a4 a5 a6 a7 : Int, e = .returned (.agg #[.int .i64 a0, .int .i64 a1, .int .i64 a2, .int .i64 a3, .int .i64 a4, .int .i64 a5, .int .i64 a6, .int .i64 a7]) ∧ Sm 99 [a0, a1, a2, a3, a4, a5, a6, a7] ∧ Below w.heap.size w w' :=
  (small_any x0 x1 x2 x3 x4 x5 x6 x7 99 w (by omega)).mono fun _ _ ⟨he, hb⟩ => ⟨_, _, _, _, _, _, _, _, he, Sm.mk8 ⟨(by have := mod_bd x0 (2 * 99 + 1) (by omega); omega), (by have := mod_bd x1 (2 * 99 + 1) (by omega); omega), (by have := mod_bd x2 (2 * 99 + 1) (by omega); omega), (by have := mod_bd x3 (2 * 99 + 1) (by omega); omega), (by have := mod_bd x4 (2 * 99 + 1) (by omega); omega), (by have := mod_bd x5 (2 * 99 + 1) (by omega); omega), (by have := mod_bd x6 (2 * 99 + 1) (by omega); omega), (by have := mod_bd x7 (2 * 99 + 1) (by omega); omega)⟩, hb⟩
theorem below_in {w0 w w' : World} {o : Obj} (h : Below w0.heap.size w0 w) (hb : Below (w.alloc o).heap.size (w.alloc o) w') : Below w0.heap.size w0 w' := by
  have h1 := h.size
  have h2 := size_alloc w o
  exact (h.alloc h1 o).trans (hb.mono (by omega))
/-- What the calls on kinds answer. -/
structure KindsSay (a0 a1 a2 a3 a4 a5 a6 a7 : Int) (s : ByteArray) (nm : ByteArray) (ok sm : Bool) (y0 y1 y2 y3 y4 y5 y6 y7 : Int) (sm2 : Bool) (z0 z1 z2 z3 z4 z5 z6 z7 : Int) (n2 : ByteArray) (ok2 : Bool) : Prop where
  k1 : ∀ w, Calls Tryd.prog 26 #[.agg #[.int .i64 a0, .int .i64 a1, .int .i64 a2, .int .i64 a3, .int .i64 a4, .int .i64 a5, .int .i64 a6, .int .i64 a7]] w fun e w' => e = .returned (.tuple #[.string nm, .bool ok]) ∧ Below w.heap.size w w'
  o1 : ∀ w, Calls Tryd.prog 28 #[.string nm] w fun e w' => e = .returned (.tuple #[.agg #[.int .i64 y0, .int .i64 y1, .int .i64 y2, .int .i64 y3, .int .i64 y4, .int .i64 y5, .int .i64 y6, .int .i64 y7], .bool sm]) ∧ Below w.heap.size w w'
  o2 : ∀ w, Calls Tryd.prog 28 #[.string s] w fun e w' => e = .returned (.tuple #[.agg #[.int .i64 z0, .int .i64 z1, .int .i64 z2, .int .i64 z3, .int .i64 z4, .int .i64 z5, .int .i64 z6, .int .i64 z7], .bool sm2]) ∧ Below w.heap.size w w'
  k2 : ∀ w, Calls Tryd.prog 26 #[.agg #[.int .i64 z0, .int .i64 z1, .int .i64 z2, .int .i64 z3, .int .i64 z4, .int .i64 z5, .int .i64 z6, .int .i64 z7]] w fun e w' => e = .returned (.tuple #[.string n2, .bool ok2]) ∧ Below w.heap.size w w'
  h1 : (ok = false ∧ sm = false) ∨ (ok = true ∧ sm = true ∧ eqB [y0, y1, y2, y3, y4, y5, y6, y7] [a0, a1, a2, a3, a4, a5, a6, a7] = true)
  h2 : (sm2 = false) ∨ (sm2 = true ∧ ok2 = true ∧ (n2.toList == s.toList) = true)
theorem kinds_say (a0 a1 a2 a3 a4 a5 a6 a7 : Int) (s : ByteArray) : ∃ (nm : ByteArray) (ok sm : Bool) (y0 y1 y2 y3 y4 y5 y6 y7 : Int) (sm2 : Bool) (z0 z1 z2 z3 z4 z5 z6 z7 : Int) (n2 : ByteArray) (ok2 : Bool), KindsSay a0 a1 a2 a3 a4 a5 a6 a7 s nm ok sm y0 y1 y2 y3 y4 y5 y6 y7 sm2 z0 z1 z2 z3 z4 z5 z6 z7 n2 ok2 := by
  obtain ⟨nm, ok, sm, yl, hyl, hk1, ho1, hh1⟩ : ∃ (nm : ByteArray) (ok sm : Bool) (yl : List Int), yl.length = 8 ∧ (∀ w, Calls Tryd.prog 26 #[.agg #[.int .i64 a0, .int .i64 a1, .int .i64 a2, .int .i64 a3, .int .i64 a4, .int .i64 a5, .int .i64 a6, .int .i64 a7]] w fun e w' => e = .returned (.tuple #[.string nm, .bool ok]) ∧ Below w.heap.size w w') ∧ (∀ w, Calls Tryd.prog 28 #[.string nm] w fun e w' => e = .returned (.tuple #[.agg (cells8 yl), .bool sm]) ∧ Below w.heap.size w w') ∧ ((ok = false ∧ sm = false) ∨ (ok = true ∧ sm = true ∧ eqB yl [a0, a1, a2, a3, a4, a5, a6, a7] = true)) := by
    have hk := kind_any a0 a1 a2 a3 a4 a5 a6 a7
    cases hq : kindOf [a0, a1, a2, a3, a4, a5, a6, a7] with
    | none =>
      rw [hq] at hk
      have ho := of_any ⟨#[]⟩
      rw [show (⟨#[]⟩ : ByteArray).data.toList = [] from rfl, none_named] at ho
      exact ⟨⟨#[]⟩, false, false, _, rfl, hk, ho, Or.inl ⟨rfl, rfl⟩⟩
    | some e =>
      rw [hq] at hk
      obtain ⟨h1, h2⟩ := of_kind hq
      have ho := of_any ⟨e.1.toArray⟩
      rw [show (⟨e.1.toArray⟩ : ByteArray).data.toList = e.1 from rfl, h2] at ho
      exact ⟨⟨e.1.toArray⟩, true, true, e.2, by rw [h1]; rfl, hk, ho, Or.inr ⟨rfl, rfl, by rw [h1]; exact eqB_self _⟩⟩
  obtain ⟨y0, y1, y2, y3, y4, y5, y6, y7, rfl⟩ := list8 yl hyl
  have ho2 := of_any s
  cases hq : kindNamed s.data.toList with
  | none =>
    rw [hq] at ho2
    exact ⟨nm, ok, sm, y0, y1, y2, y3, y4, y5, y6, y7, false, 0, 0, 0, 0, 0, 0, 0, 0, _, _, ⟨hk1, ho1, ho2, kind_any 0 0 0 0 0 0 0 0, hh1, Or.inl rfl⟩⟩
  | some e =>
    rw [hq] at ho2
    obtain ⟨h1, h2⟩ := kind_of hq
    have hl : e.2.length = 8 := tab_eight e (List.mem_of_find?_eq_some hq)
    obtain ⟨nme, el⟩ := e
    obtain ⟨z0, z1, z2, z3, z4, z5, z6, z7, he⟩ := list8 el hl
    subst he
    have hk2 := kind_any z0 z1 z2 z3 z4 z5 z6 z7
    rw [h2] at hk2
    refine ⟨nm, ok, sm, y0, y1, y2, y3, y4, y5, y6, y7, true, z0, z1, z2, z3, z4, z5, z6, z7, ⟨nme.toArray⟩, true, ⟨hk1, ho1, ho2, hk2, hh1, Or.inr ⟨rfl, rfl, ?_⟩⟩⟩
    rw [ByteArray.toList_eq, ByteArray.toList_eq, beq_iff_eq]
    exact h1
theorem print_right (a0 a1 a2 a3 a4 a5 a6 a7 : Int) (h : rightB [a0, a1, a2, a3, a4, a5, a6, a7] = true) (w : World) (ht : Tab w) : Calls Tryd.prog 22 #[.agg #[.int .i64 a0, .int .i64 a1, .int .i64 a2, .int .i64 a3, .int .i64 a4, .int .i64 a5, .int .i64 a6, .int .i64 a7]] w fun e w' => e = .returned (.tuple #[.string ⟨(dimText [a0, a1, a2, a3, a4, a5, a6, a7]).toArray⟩, .int .i64 0]) ∧ Below w.heap.size w w' := by
  have hp := print_any itoa_ok join_ok a0 a1 a2 a3 a4 a5 a6 a7 w ht
  rw [h] at hp
  exact hp

set_option maxRecDepth 100000 in
set_option maxHeartbeats 4000000 in
theorem dimBack_any (x0 x1 x2 x3 x4 x5 x6 x7 : Int) (s : ByteArray) (w : World) (ht : Tab w) :
    Calls Tryd.prog 7 #[.agg #[.int .i64 x0, .int .i64 x1, .int .i64 x2, .int .i64 x3, .int .i64 x4, .int .i64 x5, .int .i64 x6, .int .i64 x7], .string s] w fun e w' => e = .returned (.bool true) ∧ Below w.heap.size w w' := by
  have HT := hide ht
  clear ht
  have B0 : Hid (Bxs (w.alloc (.cells #[.int .i64 x0, .int .i64 x1, .int .i64 x2, .int .i64 x3, .int .i64 x4, .int .i64 x5, .int .i64 x6, .int .i64 x7] 24)) [(w.heap.size, [x0, x1, x2, x3, x4, x5, x6, x7])]) := fun p hp => by
    simp only [List.mem_cons, List.not_mem_nil, or_false] at hp
    subst hp
    exact Own8.new w [x0, x1, x2, x3, x4, x5, x6, x7]
  go_enter Tryd.func7, Tryd.ntmps7
  go_upto_region 2 with (first
    | (go_at_call 30; refine (small99 x0 x1 x2 x3 x4 x5 x6 x7 _).mono ?_; rintro e w1 ⟨a0, a1, a2, a3, a4, a5, a6, a7, rfl, ha, hb1⟩; have HA := hide ha; clear ha; have X1 := hide ((unhide B0).later hb1))
    | (refine store8 rfl (.tmp 2) (.tmp 17) rfl w.heap.size [x0, x1, x2, x3, x4, x5, x6, x7] [a0, a1, a2, a3, a4, a5, a6, a7] rfl rfl rfl rfl ((unhide X1).get 0 _ _ rfl) ?_))
  have X2 : Hid (Bxs (w1.setRow w.heap.size (cells8 [a0, a1, a2, a3, a4, a5, a6, a7])) [(w.heap.size, [a0, a1, a2, a3, a4, a5, a6, a7])]) := fun p hp => by
    simp only [List.mem_cons, List.not_mem_nil, or_false] at hp
    subst hp
    exact ((unhide X1).get 0 _ _ rfl).setRow _
  have HB2 : Hid (Below w.heap.size w (w1.setRow w.heap.size (cells8 [a0, a1, a2, a3, a4, a5, a6, a7]))) := below_setRow (((Below.refl _ _).alloc (Nat.le_refl _) _).trans (hb1.mono (by simp))) (Nat.le_refl _) _
  clear X1 B0 hb1
  generalize w1.setRow w.heap.size (cells8 [a0, a1, a2, a3, a4, a5, a6, a7]) = W1 at *
  have hr := (unhide HA).right (by omega)
  have HP := hide (print_right a0 a1 a2 a3 a4 a5 a6 a7 hr W1 ((unhide HT).later (unhide HB2)))
  have HQ : Hid (∀ w, Calls Tryd.prog 24 #[.string ⟨(dimText [a0, a1, a2, a3, a4, a5, a6, a7]).toArray⟩] w fun e w' => e = .returned (.tuple #[.agg #[.int .i64 a0, .int .i64 a1, .int .i64 a2, .int .i64 a3, .int .i64 a4, .int .i64 a5, .int .i64 a6, .int .i64 a7], .int .i64 0, .int .i64 0]) ∧ Below w.heap.size w w') := fun w => parse_text [a0, a1, a2, a3, a4, a5, a6, a7] rfl hr w
  obtain ⟨nm, ok, sm, y0, y1, y2, y3, y4, y5, y6, y7, sm2, z0, z1, z2, z3, z4, z5, z6, z7, n2, ok2, hsay⟩ := kinds_say a0 a1 a2 a3 a4 a5 a6 a7 s
  have HK := hide hsay
  generalize dimText [a0, a1, a2, a3, a4, a5, a6, a7] = tx at *
  clear hr hsay
  have eaa := eqIn24 a0 a1 a2 a3 a4 a5 a6 a7 a0 a1 a2 a3 a4 a5 a6 a7
  rw [eqB_self] at eaa
  have ltp := ((unhide X2).get 0 _ _ rfl).lt
  have cp0 := ((unhide X2).get 0 _ _ rfl).cell 0 _ rfl
  have cp1 := ((unhide X2).get 0 _ _ rfl).cell 1 _ rfl
  have cp2 := ((unhide X2).get 0 _ _ rfl).cell 2 _ rfl
  have cp3 := ((unhide X2).get 0 _ _ rfl).cell 3 _ rfl
  have cp4 := ((unhide X2).get 0 _ _ rfl).cell 4 _ rfl
  have cp5 := ((unhide X2).get 0 _ _ rfl).cell 5 _ rfl
  have cp6 := ((unhide X2).get 0 _ _ rfl).cell 6 _ rfl
  have cp7 := ((unhide X2).get 0 _ _ rfl).cell 7 _ rfl
  go_upto_region 3 with (go_at_call 22; refine (unhide HP).mono ?_; rintro e w2 ⟨rfl, hb2⟩)
  clear ltp cp0 cp1 cp2 cp3 cp4 cp5 cp6 cp7
  have X3 := hide ((unhide X2).later hb2)
  have HB3 := hide ((unhide HB2).trans (hb2.mono (unhide HB2).size))
  clear X2 HB2 hb2 HP
  go_upto_region 4 with (go_at_call 24; refine (unhide HQ _).mono ?_; rintro e w3 ⟨rfl, hb3⟩)
  have X4 := hide ((unhide X3).later hb3)
  have HB4 := hide ((unhide HB3).trans (hb3.mono (unhide HB3).size))
  clear X3 HB3 hb3 HQ
  have ltq := ((unhide X4).get 0 _ _ rfl).lt
  have cq0 := ((unhide X4).get 0 _ _ rfl).cell 0 _ rfl
  have cq1 := ((unhide X4).get 0 _ _ rfl).cell 1 _ rfl
  have cq2 := ((unhide X4).get 0 _ _ rfl).cell 2 _ rfl
  have cq3 := ((unhide X4).get 0 _ _ rfl).cell 3 _ rfl
  have cq4 := ((unhide X4).get 0 _ _ rfl).cell 4 _ rfl
  have cq5 := ((unhide X4).get 0 _ _ rfl).cell 5 _ rfl
  have cq6 := ((unhide X4).get 0 _ _ rfl).cell 6 _ rfl
  have cq7 := ((unhide X4).get 0 _ _ rfl).cell 7 _ rfl
  go_upto_region 7 with (go_at_call 26; refine ((unhide HK).k1 _).mono ?_; rintro e w4 ⟨rfl, hb4⟩)
  clear ltq cq0 cq1 cq2 cq3 cq4 cq5 cq6 cq7 eaa
  have X5 := hide (((unhide X4).alloc _).later hb4)
  have HB5 := hide (below_in (unhide HB4) hb4)
  clear X4 HB4 hb4
  go_upto_region 8 with (go_at_call 28; refine ((unhide HK).o1 _).mono ?_; rintro e w5 ⟨rfl, hb5⟩)
  have X6 := hide ((unhide X5).later hb5)
  have HB6 := hide ((unhide HB5).trans (hb5.mono (unhide HB5).size))
  clear X5 HB5 hb5
  have eya := eqIn24 y0 y1 y2 y3 y4 y5 y6 y7 a0 a1 a2 a3 a4 a5 a6 a7
  have ltr := ((unhide X6).get 0 _ _ rfl).lt
  have cr0 := ((unhide X6).get 0 _ _ rfl).cell 0 _ rfl
  have cr1 := ((unhide X6).get 0 _ _ rfl).cell 1 _ rfl
  have cr2 := ((unhide X6).get 0 _ _ rfl).cell 2 _ rfl
  have cr3 := ((unhide X6).get 0 _ _ rfl).cell 3 _ rfl
  have cr4 := ((unhide X6).get 0 _ _ rfl).cell 4 _ rfl
  have cr5 := ((unhide X6).get 0 _ _ rfl).cell 5 _ rfl
  have cr6 := ((unhide X6).get 0 _ _ rfl).cell 6 _ rfl
  have cr7 := ((unhide X6).get 0 _ _ rfl).cell 7 _ rfl
  have hh1 := (unhide HK).h1
  have hh2 := (unhide HK).h2
  rcases hh1 with ⟨rfl, rfl⟩ | ⟨rfl, rfl, hye⟩
  rotate_left
  rw [hye] at eya
  clear hye
  all_goals
    go_upto_region 11 with (go_at_call 28; refine ((unhide HK).o2 _).mono ?_; rintro e w6 ⟨rfl, hb6⟩)
    have HB7 := hide (below_in (unhide HB6) hb6)
    clear hb6 HB6 ltr cr0 cr1 cr2 cr3 cr4 cr5 cr6 cr7 eya
    rcases hh2 with rfl | ⟨rfl, rfl, hns⟩
    all_goals
      go_wp2_with (first
        | (go_at_call 26; refine ((unhide HK).k2 _).mono ?_; rintro e w7 ⟨rfl, hb7⟩; have hb8 := below_in (unhide HB7) hb7)
        | (go_at_call 21; refine (known_any _ ((unhide HT).later hb8)).mono ?_; rintro e w9 ⟨rfl, hb9⟩))
      go_ret
      exact ⟨rfl, hb8.trans (hb9.mono hb8.size)⟩
end Go.Proofs.YtccnbnfafhpeaaaDoor

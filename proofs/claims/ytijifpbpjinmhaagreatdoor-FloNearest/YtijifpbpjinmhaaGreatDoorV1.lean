/- The document's of (33). -/
import Derived.Test.YtijifpbpjinmhaaGreatDoorDec
import Derived.Test.YtijifpbpjinmhaaGreatDoorRoom
import Derived.Laws.EntriesVeiled
import Derived.Test.YtijifpbpjinmhaaGreatDoorText
import Derived.Test.YtijifpbpjinmhaaGreatDoorNearest2
import Derived.Test.YtijifpbpjinmhaaGreatDoorArith
import Derived.Test.YtijifpbpjinmhaaGreatDoorNearTo
import Derived.Test.YtijifpbpjinmhaaGreatDoorX4
import Derived.Test.YtijifpbpjinmhaaGreatDoorLimb2
set_option maxHeartbeats 4000000
set_option maxRecDepth 100000
namespace Go.Proofs.YtijifpbpjinmhaaGreatDoor
open Go.RowKit
theorem info81 : (Tryz.prog.info? 128).map (·.size) = some 5 := by kernel_rfl
theorem nz81 : ∀ (i : Nat) x, (#[.slice none 0 0, .slice none 0 0, .slice none 0 0, .slice none 0 0, .bool false] : Array Value)[i]? = some x → ∀ k n, x ≠ .int k n
  | 0, _, h => by cases h; exact NI _ _ _
  | 1, _, h => by cases h; exact NI _ _ _
  | 2, _, h => by cases h; exact NI _ _ _
  | 3, _, h => by cases h; exact NI _ _ _
  | 4, _, h => by cases h; exact fun _ _ e => by cases e
  | i + 5, _, h => by simp at h
theorem res81 {fn : Func} {p : Tmp} (h : fn.results = #[.cell p 128]) (tmps : Array Value) (w : World) (g : Nat) (vs : Array Value) (hl : vs.size = 5) (hp : tmps.getD p undef = .pointer (some ⟨g, 0, none⟩)) (ho : OwnU w g 128 vs) :
    (results fn tmps).run Tryz.prog w = .ok (.agg vs) w := by
  rw [results_cell1 h, hp]
  simp only [asAddr, Sem.run_pure, Result.andThen_ok]
  exact run_loadVar_row w g 128 128 vs (0, 0) _ ho Tryz.underlying128 rfl (by rw [info81, hl])
theorem roomOf_hi (w : World) : Calls Tryz.prog 106 #[.float .f64 4591870180066957722] w fun e w' => ∃ (a1 : Option Addr) (l1 c1 : Nat) (a2 : Option Addr) (l2 c2 : Nat) (a3 : Option Addr) (l3 c3 : Nat) (a4 : Option Addr) (l4 c4 : Nat), e = .returned (.agg #[.slice a1 l1 c1, .slice a2 l2 c2, .slice a3 l3 c3, .slice a4 l4 c4, .bool true]) ∧ IsBig w' (.agg #[.slice a1 l1 c1]) (1 * 28823037615171176) ∧ IsBig w' (.agg #[.slice a2 l2 c2]) (1 * 2) ∧ IsBig w' (.agg #[.slice a3 l3 c3]) (1 * 2) ∧ IsBig w' (.agg #[.slice a4 l4 c4]) 288230376151711744 ∧ Below w.heap.size w w' := by
  have HTW : Hid (∀ W, Calls Tryz.prog 74 #[.int .i64 (-58)] W fun e w' => ∃ v, e = .returned v ∧ IsSz w' v 1 288230376151711744 ∧ Below W.heap.size W w') := fun W => twoToN 58 288230376151711744 50 (by decide) (by decide) (by decide +kernel) (by decide) (by decide) (by decide +kernel) (by decide +kernel) W
  obtain ⟨V, hV⟩ : ∃ V, V = (w.alloc (.cells #[.slice none 0 0, .slice none 0 0, .slice none 0 0, .slice none 0 0, .bool false] 128)) := ⟨_, rfl⟩
  have HS0 : Hid (St w [(w.heap.size, 128, #[.slice none 0 0, .slice none 0 0, .slice none 0 0, .slice none 0 0, .bool false])] [] V) := by rw [hV]; have h := ((St.nil (Below.refl _ w)).new #[.slice none 0 0, .slice none 0 0, .slice none 0 0, .slice none 0 0, .bool false] 128); (try simp only [World.size_alloc] at h); exact h
  have HV := hide hV
  clear hV
  go_enter Tryz.func106, Tryz.ntmps106
  go_upto_region 1 with fail
  rw [← unhide HV]
  clear HV
  go_upto_region 5 with (go_at_call 66; go_must (refine (cut_hi _).mono ?_; rintro e ww ⟨rfl, hw⟩; have hw2 := hw.symm; subst hw2; clear hw))
  go_upto_region 6 with (first
    | (have hchk := HS0; clear hchk; go_at_call 74; go_must (refine (unhide HTW _).mono ?_; rintro e U1 ⟨_, rfl, ⟨a1, l1, c1, a2, l2, c2, rfl, hv1, hv2⟩, hb⟩; have HS1 := hide ((((unhide HS0).later hb).push hv1).push hv2); clear HS0; clear hv1 hv2 hb))
    | (have hchk := HS1; clear hchk; refine storeT 54 2 info59 rfl (.tmp 6) (.tmp 21) rfl U1.heap.size #[.slice none 0 0, .slice none 0 0] #[.slice a1 l1 c1, .slice a2 l2 c2] rfl rfl rfl rfl (OwnU.new _ _ _) (by kernel_rfl) ?_))
  have HS2 := hide ((unhide HS1).new #[.slice none 0 0, .slice none 0 0] 54)
  clear HS1
  generalize U1.alloc (.cells #[.slice none 0 0, .slice none 0 0] 54) = U2 at *
  generalize U1.heap.size = g6 at *
  have HS3 := hide (((unhide HS2)).set (nz2 _ _ _ _ _ _) #[.slice a1 l1 c1, .slice a2 l2 c2])
  clear HS2
  generalize U2.setRow g6 #[.slice a1 l1 c1, .slice a2 l2 c2] = U3 at *
  have hpn : ∀ (a : Act) (v : Value), a.put none v = a := fun _ _ => rfl
  simp only [hpn]
  clear hpn
  have hw4 : IntKind.u64.wrap 28823037615171176 = 28823037615171176 := by decide
  go_upto_region 7 with fail
  refine region_reads 15 (fun _ => True) (fun W' => W'.cell? ⟨g6, 1, none⟩ = some (.slice a2 l2 c2)) 16 rfl (by kernel_rfl) ?_
  have HS4 := hide ((unhide HS3).later ((Below.refl _ _).drew))
  clear HS3
  generalize U3.drew = U4 at *
  refine wpR_take7 (i := 0) (oi := _) (v := .func (.func 159) #[] #[.pointer (some ⟨g6, 0, none⟩)]) rfl (by kernel_rfl) (by kernel_rfl) (by kernel_rfl) (by kernel_rfl) (fun _ _ _ h => h) (Or.inl ⟨by rfl, ?_⟩) ⟨trivial, ((unhide HS4).at 0 rfl).ub.c 1 _ rfl⟩ ?_
  · intro W' hW
    go_simp
  refine wpR_take7 (i := 1) (oi := _) (v := .int .u64 7205759403792794) rfl (by kernel_rfl) (by kernel_rfl) (by kernel_rfl) (by kernel_rfl) (fun _ _ _ h => h) (Or.inl ⟨by rfl, ?_⟩) ⟨trivial, ((unhide HS4).at 0 rfl).ub.c 1 _ rfl⟩ ?_
  · intro W' hW
    go_simp
  refine wpR_take7 (i := 2) (oi := _) (v := .int .u64 28823037615171176) rfl (by kernel_rfl) (by kernel_rfl) (by kernel_rfl) (by kernel_rfl) (fun _ _ _ h => h) (Or.inl ⟨by rfl, ?_⟩) ⟨trivial, ((unhide HS4).at 0 rfl).ub.c 1 _ rfl⟩ ?_
  · intro W' hW
    go_simp
  refine wpR_take7 (i := 4) (oi := _) (v := .func (.func 159) #[] #[.pointer (some ⟨g6, 0, none⟩)]) rfl (by kernel_rfl) (by kernel_rfl) (by kernel_rfl) (by kernel_rfl) (fun _ _ _ h => h) (Or.inl ⟨by rfl, ?_⟩) ⟨trivial, ((unhide HS4).at 0 rfl).ub.c 1 _ rfl⟩ ?_
  · intro W' hW
    go_simp
  refine wpR_take7 (i := 5) (oi := _) (v := .int .u64 2) rfl (by kernel_rfl) (by kernel_rfl) (by kernel_rfl) (by kernel_rfl) (fun _ _ _ h => h) (Or.inl ⟨by rfl, ?_⟩) ⟨trivial, ((unhide HS4).at 0 rfl).ub.c 1 _ rfl⟩ ?_
  · intro W' hW
    go_simp
  refine wpR_take7 (i := 7) (oi := _) (v := .func (.func 159) #[] #[.pointer (some ⟨g6, 0, none⟩)]) rfl (by kernel_rfl) (by kernel_rfl) (by kernel_rfl) (by kernel_rfl) (fun _ _ _ h => h) (Or.inl ⟨by rfl, ?_⟩) ⟨trivial, ((unhide HS4).at 0 rfl).ub.c 1 _ rfl⟩ ?_
  · intro W' hW
    go_simp
  refine wpR_take7 (i := 9) (oi := _) (v := .pointer (some ⟨g6, 1, none⟩)) rfl (by kernel_rfl) (by kernel_rfl) (by kernel_rfl) (by kernel_rfl) (fun _ _ _ h => h) (Or.inl ⟨by rfl, ?_⟩) ⟨trivial, ((unhide HS4).at 0 rfl).ub.c 1 _ rfl⟩ ?_
  · intro W' hW
    go_simp
  refine wpR_take7 (i := 10) (oi := _) (v := .agg #[.slice a2 l2 c2]) rfl (by kernel_rfl) (by kernel_rfl) (by kernel_rfl) (by kernel_rfl) (fun _ _ _ h => h) (Or.inl ⟨by rfl, ?_⟩) ⟨trivial, ((unhide HS4).at 0 rfl).ub.c 1 _ rfl⟩ ?_
  · intro W' hW
    go_simp
  refine wpR_take7 (i := 11) (oi := _) (v := .int .u64 7205759403792794) rfl (by kernel_rfl) (by kernel_rfl) (by kernel_rfl) (by kernel_rfl) (fun _ _ _ h => h) (Or.inl ⟨by rfl, ?_⟩) ⟨trivial, ((unhide HS4).at 0 rfl).ub.c 1 _ rfl⟩ ?_
  · intro W' hW
    go_simp
  refine wpR_take7 (i := 12) (oi := _) (v := .int .u64 0) rfl (by kernel_rfl) (by kernel_rfl) (by kernel_rfl) (by kernel_rfl) (fun _ _ _ h => h) (Or.inl ⟨by rfl, ?_⟩) ⟨trivial, ((unhide HS4).at 0 rfl).ub.c 1 _ rfl⟩ ?_
  · intro W' hW
    go_simp
  refine wpR_take7 (i := 13) (oi := _) (v := .bool true) rfl (by kernel_rfl) (by kernel_rfl) (by kernel_rfl) (by kernel_rfl) (fun _ _ _ h => h) (Or.inl ⟨by rfl, ?_⟩) ⟨trivial, ((unhide HS4).at 0 rfl).ub.c 1 _ rfl⟩ ?_
  · intro W' hW
    go_simp
  refine wpR_op (i := 3) (o := _) (by kernel_rfl) rfl rfl (fun K hK => ?_)
  go_simp
  refine (parts_any _ _ _ _ _ _ 1 28823037615171176 50 g6 _ ((unhide HS4).at 0 rfl) ((unhide HS4).bgt 1 rfl) (by decide) (by decide) (by decide +kernel) (by decide +kernel)).mono ?_
  rintro e U5 ⟨a3, l3, c3, rfl, hv, hb⟩
  have HS5 := hide (((unhide HS4).later hb).push hv)
  clear HS4
  clear hv hb
  refine hK _ _ ⟨trivial, ((unhide HS5).at 0 rfl).ub.c 1 _ rfl⟩ ?_
  clear hK K
  refine wpR_op (i := 6) (o := _) (by kernel_rfl) rfl rfl (fun K hK => ?_)
  go_simp
  refine (parts_any _ _ _ _ _ _ 1 2 50 g6 _ ((unhide HS5).at 0 rfl) ((unhide HS5).bgt 2 rfl) (by decide) (by decide) (by decide +kernel) (by decide +kernel)).mono ?_
  rintro e U6 ⟨a4, l4, c4, rfl, hv, hb⟩
  have HS6 := hide (((unhide HS5).later hb).push hv)
  clear HS5
  clear hv hb
  refine hK _ _ ⟨trivial, ((unhide HS6).at 0 rfl).ub.c 1 _ rfl⟩ ?_
  clear hK K
  refine wpR_op (i := 8) (o := _) (by kernel_rfl) rfl rfl (fun K hK => ?_)
  go_simp
  refine (parts_any _ _ _ _ _ _ 1 2 50 g6 _ ((unhide HS6).at 0 rfl) ((unhide HS6).bgt 3 rfl) (by decide) (by decide) (by decide +kernel) (by decide +kernel)).mono ?_
  rintro e U7 ⟨a5, l5, c5, rfl, hv, hb⟩
  have HS7 := hide (((unhide HS6).later hb).push hv)
  clear HS6
  clear hv hb
  refine hK _ _ ⟨trivial, ((unhide HS7).at 0 rfl).ub.c 1 _ rfl⟩ ?_
  clear hK K
  refine wpR_op (i := 14) (o := _) (by kernel_rfl) rfl rfl (fun K hK => ?_)
  go_simp
  refine hK _ _ ⟨trivial, ((unhide HS7).at 0 rfl).ub.c 1 _ rfl⟩ ?_
  clear hK K
  refine wpR_late (i := 15) (o := _) (by kernel_rfl) rfl rfl (by kernel_rfl) (fun K hK => ?_)
  refine wp_store_row 128 (.tmp 2) (.tmp 37) rfl w.heap.size #[.slice a3 l3 c3, .slice a4 l4 c4, .slice a5 l5 c5, .slice a2 l2 c2, .bool true] rfl rfl 128 _ ((unhide HS7).at 1 rfl) (by rw [info81]; rfl) rfl (by kernel_rfl) ?_
  have HS8 := hide (((unhide HS7).rot).set nz81 #[.slice a3 l3 c3, .slice a4 l4 c4, .slice a5 l5 c5, .slice a2 l2 c2, .bool true])
  clear HS7
  generalize U7.setRow w.heap.size #[.slice a3 l3 c3, .slice a4 l4 c4, .slice a5 l5 c5, .slice a2 l2 c2, .bool true] = U8 at *
  refine hK _ _ (((unhide HS8).at 1 rfl).ub.c 1 _ rfl) ?_
  clear hK K
  refine wpR_done (by kernel_rfl) ?_
  go_wp2_with fail
  exact bodyPost_ret (v := .agg #[.slice a3 l3 c3, .slice a4 l4 c4, .slice a5 l5 c5, .slice a2 l2 c2, .bool true]) (res81 Tryz.results106 _ _ w.heap.size _ rfl rfl ((unhide HS8).at 0 rfl)) rfl ⟨_, _, _, _, _, _, _, _, _, _, _, _, rfl, ((unhide HS8).bgt 2 rfl), ((unhide HS8).bgt 1 rfl), ((unhide HS8).bgt 0 rfl), ((unhide HS8).bgt 3 rfl), (unhide HS8).below⟩
theorem dec_cond : ∀ n, n < 17 → 0 < n → (1 * 28823037615171176 * (1 * 10 ^ n) % (288230376151711744 * 1) < 1 * 2 * (1 * 10 ^ n) ∧ 1 * 2 * (1 * 10 ^ n) < 288230376151711744 * 1 - 1 * 28823037615171176 * (1 * 10 ^ n) % (288230376151711744 * 1) ∧ 1 * 10 ^ n < 1000000000 ^ 50) := by decide +kernel
theorem dec_any (a1 : Option Addr) (l1 c1 : Nat) (a2 : Option Addr) (l2 c2 : Nat) (a3 : Option Addr) (l3 c3 : Nat) (a4 : Option Addr) (l4 c4 : Nat) (n : Nat) (w : World) (h1 : IsBig w (.agg #[.slice a1 l1 c1]) (1 * 28823037615171176)) (h2 : IsBig w (.agg #[.slice a2 l2 c2]) (1 * 2)) (h3 : IsBig w (.agg #[.slice a3 l3 c3]) (1 * 2)) (h4 : IsBig w (.agg #[.slice a4 l4 c4]) 288230376151711744) (hn : n < 17) (h0 : 0 < n) :
    Calls Tryz.prog 110 #[.agg #[.slice a1 l1 c1, .slice a2 l2 c2, .slice a3 l3 c3, .slice a4 l4 c4, .bool true], .int .i64 (n : Int), .int .i64 0] w fun e w' => ∃ a l c, e = .returned (.tuple #[.agg #[.slice a l c], .bool true]) ∧ IsBig w' (.agg #[.slice a l c]) (1 * 28823037615171176 * (1 * 10 ^ n) / (288230376151711744 * 1)) ∧ Below w.heap.size w w' :=
  decimal_low _ _ _ _ _ _ _ _ _ _ _ _ true (1 * 28823037615171176) (1 * 2) (1 * 2) 288230376151711744 (1 * 10 ^ n) n 50 w h1 h2 h3 h4 (by omega) (fun W => tenToN n (1 * 10 ^ n) h0 (by omega) rfl W) (by decide) (by decide) ⟨by decide +kernel, by decide +kernel, by decide +kernel, by decide +kernel, (dec_cond n hn h0).2.2, by decide +kernel⟩ (dec_cond n hn h0).1 (dec_cond n hn h0).2.1
theorem short1_any (a1 : Option Addr) (l1 c1 : Nat) (a2 : Option Addr) (l2 c2 : Nat) (a3 : Option Addr) (l3 c3 : Nat) (a4 : Option Addr) (l4 c4 : Nat) (h gr gn : Nat) (w : World) (h1 : IsBig w (.agg #[.slice a1 l1 c1]) (1 * 28823037615171176)) (h2 : IsBig w (.agg #[.slice a2 l2 c2]) (1 * 2)) (h3 : IsBig w (.agg #[.slice a3 l3 c3]) (1 * 2)) (h4 : IsBig w (.agg #[.slice a4 l4 c4]) 288230376151711744) (hh : h < 16) (hr : OwnU w gr 128 #[.slice a1 l1 c1, .slice a2 l2 c2, .slice a3 l3 c3, .slice a4 l4 c4, .bool true]) (hnb : OwnU w gn 3 #[.int .i64 0]) :
    Calls Tryz.prog 109 #[.int .i64 (h : Int), .pointer (some ⟨gr, 0, none⟩), .pointer (some ⟨gn, 0, none⟩)] w fun e w' => e = .returned (.bool true) ∧ Below w.heap.size w w' := by
  have hdec : Calls Tryz.prog 110 #[.agg #[.slice a1 l1 c1, .slice a2 l2 c2, .slice a3 l3 c3, .slice a4 l4 c4, .bool true], .int .i64 ((h : Int) + 1), .int .i64 0] w fun e w' => ∃ a l c, e = .returned (.tuple #[.agg #[.slice a l c], .bool true]) ∧ Below w.heap.size w w' := by
    have e : ((h : Int) + 1) = ((h + 1 : Nat) : Int) := by omega
    rw [e]
    refine (dec_any _ _ _ _ _ _ _ _ _ _ _ _ (h + 1) w h1 h2 h3 h4 (by omega) (by omega)).mono ?_
    rintro e w' ⟨a, l, c, rfl, _, hb⟩
    exact ⟨a, l, c, rfl, hb⟩
  have u0 : w.cell? ⟨gr, 0, none⟩ = some (.slice a1 l1 c1) := hr.ub.c 0 _ rfl
  have u1 : w.cell? ⟨gr, 1, none⟩ = some (.slice a2 l2 c2) := hr.ub.c 1 _ rfl
  have u2 : w.cell? ⟨gr, 2, none⟩ = some (.slice a3 l3 c3) := hr.ub.c 2 _ rfl
  have u3 : w.cell? ⟨gr, 3, none⟩ = some (.slice a4 l4 c4) := hr.ub.c 3 _ rfl
  have u4 : w.cell? ⟨gr, 4, none⟩ = some (.bool true) := hr.ub.c 4 _ rfl
  have u5 : w.cell? ⟨gn, 0, none⟩ = some (.int .i64 0) := hnb.ub.c 0 _ rfl
  have hw : IntKind.i64.wrap ((h : Int) + 1) = (h : Int) + 1 := by rw [IntKind.wrap_i64]; omega
  have HDEC := hide hdec
  clear h1 h2 h3 h4 hr hnb hdec
  go_enter Tryz.func109, Tryz.ntmps109
  go_wp2_with (go_at_call 110; go_must (refine (unhide HDEC).mono ?_; rintro e w1 ⟨a5, l5, c5, rfl, hb⟩; have HB := hide hb; clear hb u0 u1 u2 u3 u4 u5))
  go_ret
  exact ⟨rfl, (unhide HB).alloc (unhide HB).size _⟩
theorem search_any (a1 : Option Addr) (l1 c1 : Nat) (a2 : Option Addr) (l2 c2 : Nat) (a3 : Option Addr) (l3 c3 : Nat) (a4 : Option Addr) (l4 c4 : Nat) (gr gn : Nat) (w : World) (h1 : IsBig w (.agg #[.slice a1 l1 c1]) (1 * 28823037615171176)) (h2 : IsBig w (.agg #[.slice a2 l2 c2]) (1 * 2)) (h3 : IsBig w (.agg #[.slice a3 l3 c3]) (1 * 2)) (h4 : IsBig w (.agg #[.slice a4 l4 c4]) 288230376151711744) (hr : OwnU w gr 128 #[.slice a1 l1 c1, .slice a2 l2 c2, .slice a3 l3 c3, .slice a4 l4 c4, .bool true]) (hnb : OwnU w gn 3 #[.int .i64 0]) :
    Calls Tryz.prog 108 #[.int .i64 16, .func (.func 109) #[] #[.pointer (some ⟨gr, 0, none⟩), .pointer (some ⟨gn, 0, none⟩)]] w fun e w' => e = .returned (.int .i64 0) ∧ Below w.heap.size w w' := by
  have hC : ∀ (h : Nat) W, h < 16 → Below w.heap.size w W → Calls Tryz.prog 109 #[.int .i64 (h : Int), .pointer (some ⟨gr, 0, none⟩), .pointer (some ⟨gn, 0, none⟩)] W fun e w' => e = .returned (.bool true) ∧ Below W.heap.size W w' := fun h W hh hb => short1_any _ _ _ _ _ _ _ _ _ _ _ _ h gr gn W (h1.later hb) (h2.later hb) (h3.later hb) (h4.later hb) hh (hr.later hb) (hnb.later hb)
  have HC := hide hC
  have HB0 : Hid (Below w.heap.size w w) := Below.refl _ _
  clear h1 h2 h3 h4 hr hnb hC
  go_enter Tryz.func108, Tryz.ntmps108
  go_wp2_with fail
  go_loopw [5, 6] (fun i j wr => i = .int .i64 0 ∧ (j = .int .i64 16 ∨ j = .int .i64 8 ∨ j = .int .i64 4 ∨ j = .int .i64 2 ∨ j = .int .i64 1 ∨ j = .int .i64 0) ∧ Hid (Below w.heap.size w wr)) (fun _ j _ => (intOf j).toNat)
  case atStart => exact ⟨rfl, Or.inl rfl, HB0⟩
  case round =>
    obtain ⟨rfl, h, HB⟩ := hrel
    rcases h with rfl | rfl | rfl | rfl | rfl | rfl
    · go_wp2_with (go_at_call 109; go_must (refine (unhide HC 8 _ (by decide) (unhide HB)).mono ?_; rintro e w1 ⟨rfl, hb⟩; have HB1 : Hid (Below w.heap.size w w1) := (unhide HB).trans (hb.mono (unhide HB).size); clear hb))
      go_roundw
      case rel => exact ⟨rfl, Or.inr (Or.inl rfl), HB1⟩
      case measure => decide
    · go_wp2_with (go_at_call 109; go_must (refine (unhide HC 4 _ (by decide) (unhide HB)).mono ?_; rintro e w1 ⟨rfl, hb⟩; have HB1 : Hid (Below w.heap.size w w1) := (unhide HB).trans (hb.mono (unhide HB).size); clear hb))
      go_roundw
      case rel => exact ⟨rfl, Or.inr (Or.inr (Or.inl rfl)), HB1⟩
      case measure => decide
    · go_wp2_with (go_at_call 109; go_must (refine (unhide HC 2 _ (by decide) (unhide HB)).mono ?_; rintro e w1 ⟨rfl, hb⟩; have HB1 : Hid (Below w.heap.size w w1) := (unhide HB).trans (hb.mono (unhide HB).size); clear hb))
      go_roundw
      case rel => exact ⟨rfl, Or.inr (Or.inr (Or.inr (Or.inl rfl))), HB1⟩
      case measure => decide
    · go_wp2_with (go_at_call 109; go_must (refine (unhide HC 1 _ (by decide) (unhide HB)).mono ?_; rintro e w1 ⟨rfl, hb⟩; have HB1 : Hid (Below w.heap.size w w1) := (unhide HB).trans (hb.mono (unhide HB).size); clear hb))
      go_roundw
      case rel => exact ⟨rfl, Or.inr (Or.inr (Or.inr (Or.inr (Or.inl rfl)))), HB1⟩
      case measure => decide
    · go_wp2_with (go_at_call 109; go_must (refine (unhide HC 0 _ (by decide) (unhide HB)).mono ?_; rintro e w1 ⟨rfl, hb⟩; have HB1 : Hid (Below w.heap.size w w1) := (unhide HB).trans (hb.mono (unhide HB).size); clear hb))
      go_roundw
      case rel => exact ⟨rfl, Or.inr (Or.inr (Or.inr (Or.inr (Or.inr (rfl))))), HB1⟩
      case measure => decide
    · go_wp2_with fail
      go_ret
      exact ⟨rfl, unhide HB⟩
theorem places_hi (a1 : Option Addr) (l1 c1 : Nat) (a2 : Option Addr) (l2 c2 : Nat) (w : World) (hp : IsBig w (.agg #[.slice a1 l1 c1]) (1 * 28823037615171176)) (hq : IsBig w (.agg #[.slice a2 l2 c2]) 288230376151711744) : Calls Tryz.prog 107 #[.agg #[.slice a1 l1 c1, .slice a2 l2 c2]] w fun e w' => e = .returned (.int .i64 0) ∧ Below w.heap.size w w' :=
  places_up a1 l1 c1 a2 l2 c2 (1 * 28823037615171176) 288230376151711744 17 18 50 1 (1 * 10 ^ 1) (-1) w hp hq (by decide) (by decide +kernel) (by decide +kernel) (by decide +kernel) (by decide +kernel) (by decide) (by decide) (fun W => tenToN 1 (1 * 10 ^ 1) (by decide) (by decide) rfl W) (by decide +kernel) (by decide +kernel)
theorem text_one (v : Value) (w : World) (h : IsBig w v (1 * 28823037615171176 * (1 * 10 ^ 1) / (288230376151711744 * 1))) (ht : Tab w) : Calls Tryz.prog 39 #[v] w fun e w' => e = .returned (.string ⟨#[49]⟩) ∧ Below w.heap.size w w' := by
  rw [show 1 * 28823037615171176 * (1 * 10 ^ 1) / (288230376151711744 * 1) = 1 by decide +kernel] at h
  have e := text_any v 1 1 w h (by decide) (by decide) ht
  rwa [show Lib.decDigits 1 = [49] by decide +kernel] at e
theorem repeat_none (s : ByteArray) (w : World) : Calls Tryz.prog 104 #[.string s, .int .i64 0] w fun e w' => e = .returned (.string ⟨#[]⟩) ∧ w' = w := by
  go_enter Tryz.func104, Tryz.ntmps104
  go_wp2
  go_ret
  exact ⟨rfl, rfl⟩
theorem laid_one (w : World) : Calls Tryz.prog 55 #[.string ⟨#[49]⟩, .int .i64 0] w fun e w' => e = .returned (.string ⟨#[48, 46, 49]⟩) ∧ w' = w := by
  have hw : IntKind.i64.wrap 0 = 0 := by decide
  go_enter Tryz.func55, Tryz.ntmps55
  go_wp2_with (go_at_call 104; go_must (refine (repeat_none _ _).mono ?_; rintro e ww ⟨rfl, hw⟩; have hw2 := hw.symm; subst hw2; clear hw))
  go_ret
  exact ⟨rfl, rfl⟩
theorem shortest_hi (w : World) (htab : Tab w) : Calls Tryz.prog 56 #[.float .f64 4591870180066957722] w fun e w' => e = .returned (.tuple #[.string ⟨#[49]⟩, .int .i64 0]) ∧ Below w.heap.size w w' := by
  have hta : ∀ W, Below w.heap.size w W → Tab W := fun W hb => htab.later hb
  have HTAB := hide hta
  have h0 : (FloatKind.f64.format.order 4591870180066957722 0 == some Ordering.eq) = false := by decide +kernel
  have HS0 : Hid (St w [] [] w) := St.nil (Below.refl _ _)
  clear htab hta
  go_enter Tryz.func56, Tryz.ntmps56
  go_upto_region 4 with (first
    | (have hchk := HS0; clear hchk; go_at_call 106; go_must (refine (roomOf_hi _).mono ?_; rintro e U1 ⟨a1, l1, c1, a2, l2, c2, a3, l3, c3, a4, l4, c4, rfl, hv1, hv2, hv3, hv4, hb⟩; have HS1 := hide ((((((unhide HS0).later hb).push hv1).push hv2).push hv3).push hv4); clear HS0; clear hv1 hv2 hv3 hv4 hb h0))
    | (have hchk := HS1; clear hchk; refine storeT 128 5 info81 rfl (.tmp 4) (.tmp 13) rfl U1.heap.size #[.slice none 0 0, .slice none 0 0, .slice none 0 0, .slice none 0 0, .bool false] #[.slice a1 l1 c1, .slice a2 l2 c2, .slice a3 l3 c3, .slice a4 l4 c4, .bool true] rfl rfl rfl rfl (OwnU.new _ _ _) (by kernel_rfl) ?_))
  have HS2 := hide ((unhide HS1).new #[.slice none 0 0, .slice none 0 0, .slice none 0 0, .slice none 0 0, .bool false] 128)
  clear HS1
  generalize U1.alloc (.cells #[.slice none 0 0, .slice none 0 0, .slice none 0 0, .slice none 0 0, .bool false] 128) = U2 at *
  generalize U1.heap.size = g4 at *
  have HS3 := hide (((unhide HS2)).set nz81 #[.slice a1 l1 c1, .slice a2 l2 c2, .slice a3 l3 c3, .slice a4 l4 c4, .bool true])
  clear HS2
  generalize U2.setRow g4 #[.slice a1 l1 c1, .slice a2 l2 c2, .slice a3 l3 c3, .slice a4 l4 c4, .bool true] = U3 at *
  have u0 := ((unhide HS3).at 0 rfl).ub.c 0 _ rfl
  have u3 := ((unhide HS3).at 0 rfl).ub.c 3 _ rfl
  go_upto_region 5 with (have hchk := HS3; clear hchk; go_at_call 107; go_must (refine (places_hi _ _ _ _ _ _ _ ((unhide HS3).bgt 3 rfl) ((unhide HS3).bgt 0 rfl)).mono ?_; rintro e U4 ⟨rfl, hb⟩; have HS4 := hide ((unhide HS3).later hb); clear HS3; clear hb u0 u3))
  have HS5 := hide ((unhide HS4).new #[.int .i64 0] 3)
  clear HS4
  generalize U4.alloc (.cells #[.int .i64 0] 3) = U5 at *
  generalize U4.heap.size = g5 at *
  go_upto_region 6 with (have hchk := HS5; clear hchk; go_at_call 108; go_must (refine (search_any _ _ _ _ _ _ _ _ _ _ _ _ g4 g5 _ ((unhide HS5).bgt 3 rfl) ((unhide HS5).bgt 2 rfl) ((unhide HS5).bgt 1 rfl) ((unhide HS5).bgt 0 rfl) ((unhide HS5).at 1 rfl) ((unhide HS5).at 0 rfl)).mono ?_; rintro e U6 ⟨rfl, hb⟩; have HS6 := hide ((unhide HS5).later hb); clear HS5; clear hb))
  have u0 := ((unhide HS6).at 1 rfl).ub.c 0 _ rfl
  have u1 := ((unhide HS6).at 1 rfl).ub.c 1 _ rfl
  have u2 := ((unhide HS6).at 1 rfl).ub.c 2 _ rfl
  have u3 := ((unhide HS6).at 1 rfl).ub.c 3 _ rfl
  have u4 := ((unhide HS6).at 1 rfl).ub.c 4 _ rfl
  have u5 := ((unhide HS6).at 0 rfl).ub.c 0 _ rfl
  go_upto_region 7 with (have hchk := HS6; clear hchk; go_at_call 110; go_must (refine (dec_any _ _ _ _ _ _ _ _ _ _ _ _ 1 _ ((unhide HS6).bgt 3 rfl) ((unhide HS6).bgt 2 rfl) ((unhide HS6).bgt 1 rfl) ((unhide HS6).bgt 0 rfl) (by decide) (by decide)).mono ?_; rintro e U7 ⟨a5, l5, c5, rfl, hv, hb⟩; have HS7 := hide (((unhide HS6).later hb).push hv); clear HS6; clear hv hb u0 u1 u2 u3 u4 u5))
  have HS8 := hide ((unhide HS7).new #[.slice a5 l5 c5] 51)
  clear HS7
  generalize U7.alloc (.cells #[.slice a5 l5 c5] 51) = U8 at *
  generalize U7.heap.size = g7 at *
  have u0 := ((unhide HS8).at 0 rfl).ub.c 0 _ rfl
  go_upto_region 10 with (have hchk := HS8; clear hchk; go_at_call 39; go_must (refine (text_one _ _ ((unhide HS8).bgt 0 rfl) (unhide HTAB _ (unhide HS8).below)).mono ?_; rintro e U9 ⟨rfl, hb⟩; have HS9 := hide ((unhide HS8).later hb); clear HS8; clear hb u0))
  refine region_reads 3 (fun _ => True) (fun W' => W'.cell? ⟨g5, 0, none⟩ = some (.int .i64 0)) 4 rfl (by kernel_rfl) ?_
  have HS10 := hide ((unhide HS9).later ((Below.refl _ _).drew))
  clear HS9
  generalize U9.drew = X0 at *
  refine wpR_take7 (i := 0) (oi := _) (v := .string ⟨#[49]⟩) rfl (by kernel_rfl) (by kernel_rfl) (by kernel_rfl) (by kernel_rfl) (fun _ _ _ h => h) (Or.inl ⟨by rfl, ?_⟩) ⟨trivial, ((unhide HS10).at 1 rfl).ub.c 0 _ rfl⟩ ?_
  · intro W' hW
    go_simp
  refine wpR_take7 (i := 1) (oi := _) (v := .int .i64 0) rfl (by kernel_rfl) (by kernel_rfl) (by kernel_rfl) (by kernel_rfl) (fun _ _ _ h => h) (Or.inl ⟨by rfl, ?_⟩) ⟨trivial, ((unhide HS10).at 1 rfl).ub.c 0 _ rfl⟩ ?_
  · intro W' hW
    go_simp
  refine wpR_op (i := 2) (o := _) (by kernel_rfl) rfl rfl (fun K hK => ?_)
  go_simp
  refine hK _ _ ⟨trivial, ((unhide HS10).at 1 rfl).ub.c 0 _ rfl⟩ ?_
  clear hK K
  refine wpR_late (i := 3) (o := _) (by kernel_rfl) rfl rfl (by kernel_rfl) (fun K hK => ?_)
  go_simp
  refine hK _ _ (((unhide HS10).at 1 rfl).ub.c 0 _ rfl) ?_
  clear hK K
  refine wpR_done (by kernel_rfl) ?_
  go_wp2_with fail
  exact bodyPost_ret (v := .tuple #[.string ⟨#[49]⟩, .int .i64 0]) (by simp [results, Tryz.results56, go_sem]) rfl ⟨rfl, (unhide HS10).below⟩
end Go.Proofs.YtijifpbpjinmhaaGreatDoor
namespace Go.Proofs.YtijifpbpjinmhaaGreatDoor
open Go.RowKit Go.Maps Go.ChangeMaps Go.WideMaps
attribute [local go_sem] run_bits run_from
theorem signbit_tenth (w : World) : Calls Tryz.prog 57 #[.float .f64 4591870180066957722] w fun e w' => e = .returned (.bool false) ∧ w' = w := by
  go_enter Tryz.func57, Tryz.ntmps57
  go_wp2
  go_ret
  exact ⟨rfl, rfl⟩
theorem keyOf_string_inv {P : Program} {k : TypeId} (hk : P.underlying k = some .string) {key : Value} {kl : Lit} (h : keyOf P k key = some kl) : ∃ s, key = .string s := by
  cases key <;> simp [keyOf, hk, mapKey] at h
  exact ⟨_, rfl⟩
theorem order_word (b : Nat) (h : b = 9221120237041090561 ∨ b = 9218868437227405312 ∨ b = 18442240474082181120) (w : World) : Calls Tryz.prog 20 #[.float .f64 4591870180066957722, .float .f64 b] w fun e w' => ∃ q : Int, q ≠ 0 ∧ e = .returned (.int .i64 q) ∧ w' = w := by
  have hb : b < 18446744073709551616 ∧ Cub.cmpN (rk 4591870180066957722) (rk b) ≠ 0 := by
    rcases h with rfl | rfl | rfl <;> decide +kernel
  refine (order_any 4591870180066957722 b (by decide) hb.1 w).mono ?_
  rintro e w' ⟨rfl, hw⟩
  exact ⟨_, hb.2, rfl, hw⟩
theorem word_left {kl : Lit} {v : Value} {y : DataW Unit × List MemPlace} (h1 : Maps.has (wD 3) kl = true) (h2 : wR v = some y) (h3 : ∀ zd, (wD 3).atKey kl zd = y.1) : ∃ b : Nat, v = .float .f64 b ∧ (b = 9221120237041090561 ∨ b = 9218868437227405312 ∨ b = 18442240474082181120) := by
  obtain ⟨d, ps⟩ := y
  have e := h3 (.map [])
  have hd : d = .lit (.int .i64 9221120237041090561) ∨ d = .lit (.int .i64 9218868437227405312) ∨ d = .lit (.int .i64 18442240474082181120) := by
    rcases wD_at kl (.map []) h1 with h | h | h
    · exact Or.inl (e.symm.trans h)
    · exact Or.inr (Or.inl (e.symm.trans h))
    · exact Or.inr (Or.inr (e.symm.trans h))
  clear e h3 h1
  rcases hd with rfl | rfl | rfl
  · obtain ⟨b, rfl, hb⟩ := wR_inv h2
    exact ⟨b, rfl, Or.inl (by omega)⟩
  · obtain ⟨b, rfl, hb⟩ := wR_inv h2
    exact ⟨b, rfl, Or.inr (Or.inl (by omega))⟩
  · obtain ⟨b, rfl, hb⟩ := wR_inv h2
    exact ⟨b, rfl, Or.inr (Or.inr (by omega))⟩
theorem text_tenth (w : World) (htab : Tab w) : Calls Tryz.prog 18 #[.float .f64 4591870180066957722] w fun r w' => r = .returned (.string ⟨#[48, 46, 49]⟩) ∧ Below w.heap.size w w' := by
  have HTAB := hide htab
  clear htab
  obtain ⟨g, hg⟩ : ∃ g, g = w.heap.size := ⟨_, rfl⟩
  have HG0 : Hid (g = w.heap.size) := hg
  clear hg
  have HW : Hid (Calls Tryz.prog 43 #[] w fun r w' => r = .returned (.map (some g)) ∧ w'.ownsMap Tryz.prog 9 wR g 3 (wD 3) ∧ Below w.heap.size w w') := by rw [unhide HG0]; exact words_any w
  have HS : Hid (∀ W, Below w.heap.size w W → Calls Tryz.prog 56 #[.float .f64 4591870180066957722] W fun e w' => e = .returned (.tuple #[.string ⟨#[49]⟩, .int .i64 0]) ∧ Below W.heap.size W w') := fun W hW => shortest_hi W ((unhide HTAB).later hW)
  go_enter Tryz.func18, Tryz.ntmps18
  go_wp2_with (first
    | (go_at_call 43; go_must (refine (unhide HW).mono ?_; rintro e w1 ⟨rfl, hown, hb⟩; have HO := hide hown; have HB := hide hb; clear hown hb))
    | (at_range; refine wpList_range_own _ rfl _ 70 rfl 9 24 (string_keyed Tryz.underlying9) underM wR g 3 (wD 3) rfl (unhide HO) ?_; intro w3 hrg hgr hsz; go_frame))
  have HRG : Hid (w3.ranges Tryz.prog 9 wR g w1.heap.size 3 (wD 3) (Maps.has (wD 3)) (Maps.size (wD 3))) := hrg
  have HB3 : Hid (Below w.heap.size w w3 ∧ w1.heap.size < w3.heap.size) := ⟨(unhide HB).grown hgr (unhide HB).size (fun j hj => by cases hj), by omega⟩
  clear hrg hgr hsz
  go_loopw [3, 4] (fun _ _ wr => ∃ (left : Lit → Bool) (cnt : Nat), Hid (wr.ranges Tryz.prog 9 wR g w1.heap.size 3 (wD 3) left cnt) ∧ Hid (∀ kl, left kl = true → Maps.has (wD 3) kl = true) ∧ Hid (Below w.heap.size w wr)) (fun _ _ wr => wr.rangeLeft g w1.heap.size)
  case atStart => exact ⟨_, _, HRG, fun _ h => h, (unhide HB3).1⟩
  case round =>
    obtain ⟨left, cnt, HG, HL, HBr⟩ := hrel
    go_wp2_with (at_next; go_loud (refine wpList_next_ranges _ rfl _ rfl 9 (string_keyed Tryz.underlying9) wR (fun x : ByteArray => .string x) (fun v : Value => v) (fun key kl h => keyOf_string_inv Tryz.underlying9 h) (fun v y _ => ⟨v, rfl⟩) g w1.heap.size 3 (wD 3) left cnt rfl (unhide HG) ?_ ?_))
    · intro _ hl0
      clear hl0 HL HG
      go_wp2_with (first
        | (go_at_call 56; go_must (refine (unhide HS _ (unhide HBr)).mono ?_; rintro e w5 ⟨rfl, hb⟩; have HB5 := hide ((unhide HBr).trans (hb.mono (unhide HBr).size)); clear hb))
        | (go_at_call 55; go_must (refine (laid_one _).mono ?_; rintro e w6 ⟨rfl, hw6⟩; have hw7 := hw6.symm; subst hw7; clear hw6))
        | (go_at_call 57; go_must (refine (signbit_tenth _).mono ?_; rintro e w6 ⟨rfl, hw6⟩; have hw7 := hw6.symm; subst hw7; clear hw6)))
      go_ret
      exact ⟨rfl, unhide HB5⟩
    · intro x v kl d ps w4 cnt4 hkx hlx hv hat hrg4 hlt hg4 hs4 hen
      obtain ⟨b, rfl, hb3⟩ := word_left (y := (d, ps)) ((unhide HL) kl hlx) hv hat
      have HB4 : Hid (Below w.heap.size w w4) := (unhide HBr).grown hg4 (unhide HBr).size (fun j hj => by cases hj; exact (unhide HB).size)
      have HORD : Hid (∀ W, Calls Tryz.prog 20 #[.float .f64 4591870180066957722, .float .f64 b] W fun e w' => ∃ q : Int, q ≠ 0 ∧ e = .returned (.int .i64 q) ∧ w' = W) := order_word b hb3
      have HG4 := hide hrg4
      have HLT : Hid (cnt4 < cnt) := hlt
      have HL1 : Hid (∀ z, (left z && !z.sameKey kl) = true → Maps.has (wD 3) z = true) := fun z h => (unhide HL) z (by simp at h; exact h.1)
      clear hrg4 hlt hkx hlx hv hat hg4 hs4 hb3
      go_wp2_with (go_at_call 20; go_must (refine (unhide HORD _).mono ?_; rintro e w6 ⟨q, hq, rfl, hw6⟩; have hw7 := hw6.symm; subst hw7; clear hw6))
      go_roundw
      case rel => exact ⟨_, _, HG4, HL1, HB4⟩
      case measure => rw [(unhide HG4).left_eq, (unhide HG).left_eq]; exact unhide HLT
/-- The law's known answers. -/
theorem known_ok (w : World) (htab : Tab w) : Calls Tryz.prog 13 #[] w fun r w' => r = .returned (.bool true) ∧ Below w.heap.size w w' := by
  have HN : Hid (Calls Tryz.prog 10 #[.agg #[.string ⟨#[49]⟩, .string ⟨#[49, 48]⟩]] w fun e w' => e = .returned (.tuple #[.float .f64 4591870180066957722, .int .i64 0]) ∧ Below w.heap.size w w') := near_tenth w htab
  have HT : Hid (∀ W, Below w.heap.size w W → Calls Tryz.prog 18 #[.float .f64 4591870180066957722] W fun r w' => r = .returned (.string ⟨#[48, 46, 49]⟩) ∧ Below W.heap.size W w') := fun W hW => text_tenth W (htab.later hW)
  have HO : Hid (∀ W, Calls Tryz.prog 20 #[.float .f64 4607182418800017408, .float .f64 4611686018427387904] W fun e w' => e = .returned (.int .i64 (-1)) ∧ w' = W) := fun W => by
    have h : Cub.cmpN (rk 4607182418800017408) (rk 4611686018427387904) = -1 := by decide +kernel
    rw [← h]
    exact order_any _ _ (by decide) (by decide) W
  clear htab
  go_enter Tryz.func13, Tryz.ntmps13
  go_wp2_with (first
    | (go_at_call 10; go_must (refine (unhide HN).mono ?_; rintro e w1 ⟨rfl, hb⟩; have HB := hide hb; clear hb))
    | (go_at_call 18; go_must (refine (unhide HT _ (unhide HB)).mono ?_; rintro e w2 ⟨rfl, hb⟩; have HB2 := hide ((unhide HB).trans (hb.mono (unhide HB).size)); clear hb))
    | (go_at_call 20; go_must (refine (unhide HO _).mono ?_; rintro e w6 ⟨rfl, hw6⟩; have hw7 := hw6.symm; subst hw7; clear hw6)))
  go_ret
  exact ⟨rfl, unhide HB2⟩
end Go.Proofs.YtijifpbpjinmhaaGreatDoor
namespace Go.Proofs.YtijifpbpjinmhaaGreatDoor
open Go.RowKit
attribute [local go_sem] run_bits run_from
def pU (e : Int) : Nat := 2 ^ e.toNat
def qU (e : Int) : Nat := 2 ^ (-e).toNat
end Go.Proofs.YtijifpbpjinmhaaGreatDoor
namespace Go.Proofs.YtijifpbpjinmhaaGreatDoor
open Go.RowKit
/-- How a number's text is split. -/
def Spl (num ds : ByteArray) (b : Bool) : Prop := (b = true ∧ 0 < num.size ∧ (∀ h : 0 < num.size, (num[0].toNat : Int) = 45) ∧ num.extract 1 num.size = ds) ∨ (b = false ∧ ds = num ∧ (0 < num.size ∧ ∀ h : 0 < num.size, ((num[0].toNat : Int) == 45) = false)) ∨ (b = false ∧ ds = num ∧ num.size = 0)
end Go.Proofs.YtijifpbpjinmhaaGreatDoor

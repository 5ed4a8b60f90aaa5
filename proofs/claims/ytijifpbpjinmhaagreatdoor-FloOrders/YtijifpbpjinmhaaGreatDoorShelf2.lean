/- The library contracts that the proofs use, laid at this program: each is the contract itself at the numbers of this program. -/
import Derived.Test.YtijifpbpjinmhaaGreatDoorDec
import Derived.Test.YtijifpbpjinmhaaGreatDoorRoom
import Derived.Laws.EntriesVeiled
import Derived.Shelf.Strings.Builder1
import Derived.Shelf.Strings.Builder2
import Derived.Shelf.Small.Bits
import Derived.Shelf.Small.Wraps
import Derived.Shelf.Strings.BuilderF
import Derived.Shelf.Strings.BuilderK
import Derived.Shelf.Strings.Builder2Cap
import Derived.Shelf.Strconv.Itoa0
import Derived.Shelf.Strconv.Itoa1
import Derived.Shelf.LaysM
import Derived.Shelf.Strconv.Itoa2
import Derived.Shelf.Strconv.Itoa3
import Derived.Ground.MpProg
import Derived.Shelf.Pu.ParseUintPublic10
import Derived.Shelf.Pu.ErrVarParseUint
import Derived.Shelf.Strconv.AppendUint10
import Derived.Shelf.Strconv.AppendInt10
import Derived.Shelf.Strings.Prefix
import Derived.Ground.Names2Prog
import Derived.Shelf.Slices.SearchI
import Derived.Test.YtijifpbpjinmhaaGreatDoorProg
set_option maxHeartbeats 4000000
set_option maxRecDepth 100000
namespace Go.Proofs.YtijifpbpjinmhaaGreatDoor
open Go.RowKit
theorem info81 : (Tryz.prog.info? 128).map (·.size) = some 5 := by kernel_rfl
theorem nz81 : ∀ (i : Nat) x, (#[.slice none 0 0, .slice none 0 0, .slice none 0 0, .slice none 0 0, .bool false] : Array Value)[i]? = some x → ∀ k n, x ≠ .int k n
  | 0, _, h => by cases h; exact NI _ _ _
  | 1, _, h => by cases h; exact NI _ _ _
  | 2, _, h => by cases h; exact NI _ _ _
  | 3, _, h => by cases h; exact NI _ _ _
  | 4, _, h => by cases h; exact fun _ _ e => by cases e
  | i + 5, _, h => by simp at h
theorem res81 {fn : Func} {p : Tmp} (h : fn.results = #[.cell p 128]) (tmps : Array Value) (w : World) (g : Nat) (vs : Array Value) (hl : vs.size = 5) (hp : tmps.getD p undef = .pointer (some ⟨g, 0, none⟩)) (ho : OwnU w g 128 vs) :
    (results fn tmps).run Tryz.prog w = .ok (.agg vs) w := by
  rw [results_cell1 h, hp]
  simp only [asAddr, Sem.run_pure, Result.andThen_ok]
  exact run_loadVar_row w g 128 128 vs (0, 0) _ ho Tryz.underlying128 rfl (by rw [info81, hl])
theorem roomOf_hi (w : World) : Calls Tryz.prog 106 #[.float .f64 4591870180066957722] w fun e w' => ∃ (a1 : Option Addr) (l1 c1 : Nat) (a2 : Option Addr) (l2 c2 : Nat) (a3 : Option Addr) (l3 c3 : Nat) (a4 : Option Addr) (l4 c4 : Nat), e = .returned (.agg #[.slice a1 l1 c1, .slice a2 l2 c2, .slice a3 l3 c3, .slice a4 l4 c4, .bool true]) ∧ IsBig w' (.agg #[.slice a1 l1 c1]) (1 * 28823037615171176) ∧ IsBig w' (.agg #[.slice a2 l2 c2]) (1 * 2) ∧ IsBig w' (.agg #[.slice a3 l3 c3]) (1 * 2) ∧ IsBig w' (.agg #[.slice a4 l4 c4]) 288230376151711744 ∧ Below w.heap.size w w' := by
  have HTW : Hid (∀ W, Calls Tryz.prog 74 #[.int .i64 (-58)] W fun e w' => ∃ v, e = .returned v ∧ IsSz w' v 1 288230376151711744 ∧ Below W.heap.size W w') := fun W => twoToN 58 288230376151711744 50 (by decide) (by decide) (by decide +kernel) (by decide) (by decide) (by decide +kernel) (by decide +kernel) W
  obtain ⟨V, hV⟩ : ∃ V, V = (w.alloc (.cells #[.slice none 0 0, .slice none 0 0, .slice none 0 0, .slice none 0 0, .bool false] 128)) := ⟨_, rfl⟩
  have HS0 : Hid (St w [(w.heap.size, 128, #[.slice none 0 0, .slice none 0 0, .slice none 0 0, .slice none 0 0, .bool false])] [] V) := by rw [hV]; have h := ((St.nil (Below.refl _ w)).new #[.slice none 0 0, .slice none 0 0, .slice none 0 0, .slice none 0 0, .bool false] 128); (try simp only [World.size_alloc] at h); exact h
  have HV := hide hV
  clear hV
  go_enter Tryz.func106, Tryz.ntmps106
  go_upto_region 1 with fail
  rw [← unhide HV]
  clear HV
  go_upto_region 5 with (go_at_call 66; go_must (refine (cut_hi _).mono ?_; rintro e ww ⟨rfl, hw⟩; have hw2 := hw.symm; subst hw2; clear hw))
  go_upto_region 6 with (first
    | (have hchk := HS0; clear hchk; go_at_call 74; go_must (refine (unhide HTW _).mono ?_; rintro e U1 ⟨_, rfl, ⟨a1, l1, c1, a2, l2, c2, rfl, hv1, hv2⟩, hb⟩; have HS1 := hide ((((unhide HS0).later hb).push hv1).push hv2); clear HS0; clear hv1 hv2 hb))
    | (have hchk := HS1; clear hchk; refine storeT 54 2 info59 rfl (.tmp 6) (.tmp 21) rfl U1.heap.size #[.slice none 0 0, .slice none 0 0] #[.slice a1 l1 c1, .slice a2 l2 c2] rfl rfl rfl rfl (OwnU.new _ _ _) (by kernel_rfl) ?_))
  have HS2 := hide ((unhide HS1).new #[.slice none 0 0, .slice none 0 0] 54)
  clear HS1
  generalize U1.alloc (.cells #[.slice none 0 0, .slice none 0 0] 54) = U2 at *
  generalize U1.heap.size = g6 at *
  have HS3 := hide (((unhide HS2)).set (nz2 _ _ _ _ _ _) #[.slice a1 l1 c1, .slice a2 l2 c2])
  clear HS2
  generalize U2.setRow g6 #[.slice a1 l1 c1, .slice a2 l2 c2] = U3 at *
  have hpn : ∀ (a : Act) (v : Value), a.put none v = a := fun _ _ => rfl
  simp only [hpn]
  clear hpn
  have hw4 : IntKind.u64.wrap 28823037615171176 = 28823037615171176 := by decide
  go_upto_region 7 with fail
  refine region_reads 15 (fun _ => True) (fun W' => W'.cell? ⟨g6, 1, none⟩ = some (.slice a2 l2 c2)) 16 rfl (by kernel_rfl) ?_
  have HS4 := hide ((unhide HS3).later ((Below.refl _ _).drew))
  clear HS3
  generalize U3.drew = U4 at *
  refine wpR_take7 (i := 0) (oi := _) (v := .func (.func 159) #[] #[.pointer (some ⟨g6, 0, none⟩)]) rfl (by kernel_rfl) (by kernel_rfl) (by kernel_rfl) (by kernel_rfl) (fun _ _ _ h => h) (Or.inl ⟨by rfl, ?_⟩) ⟨trivial, ((unhide HS4).at 0 rfl).ub.c 1 _ rfl⟩ ?_
  · intro W' hW
    go_simp
  refine wpR_take7 (i := 1) (oi := _) (v := .int .u64 7205759403792794) rfl (by kernel_rfl) (by kernel_rfl) (by kernel_rfl) (by kernel_rfl) (fun _ _ _ h => h) (Or.inl ⟨by rfl, ?_⟩) ⟨trivial, ((unhide HS4).at 0 rfl).ub.c 1 _ rfl⟩ ?_
  · intro W' hW
    go_simp
  refine wpR_take7 (i := 2) (oi := _) (v := .int .u64 28823037615171176) rfl (by kernel_rfl) (by kernel_rfl) (by kernel_rfl) (by kernel_rfl) (fun _ _ _ h => h) (Or.inl ⟨by rfl, ?_⟩) ⟨trivial, ((unhide HS4).at 0 rfl).ub.c 1 _ rfl⟩ ?_
  · intro W' hW
    go_simp
  refine wpR_take7 (i := 4) (oi := _) (v := .func (.func 159) #[] #[.pointer (some ⟨g6, 0, none⟩)]) rfl (by kernel_rfl) (by kernel_rfl) (by kernel_rfl) (by kernel_rfl) (fun _ _ _ h => h) (Or.inl ⟨by rfl, ?_⟩) ⟨trivial, ((unhide HS4).at 0 rfl).ub.c 1 _ rfl⟩ ?_
  · intro W' hW
    go_simp
  refine wpR_take7 (i := 5) (oi := _) (v := .int .u64 2) rfl (by kernel_rfl) (by kernel_rfl) (by kernel_rfl) (by kernel_rfl) (fun _ _ _ h => h) (Or.inl ⟨by rfl, ?_⟩) ⟨trivial, ((unhide HS4).at 0 rfl).ub.c 1 _ rfl⟩ ?_
  · intro W' hW
    go_simp
  refine wpR_take7 (i := 7) (oi := _) (v := .func (.func 159) #[] #[.pointer (some ⟨g6, 0, none⟩)]) rfl (by kernel_rfl) (by kernel_rfl) (by kernel_rfl) (by kernel_rfl) (fun _ _ _ h => h) (Or.inl ⟨by rfl, ?_⟩) ⟨trivial, ((unhide HS4).at 0 rfl).ub.c 1 _ rfl⟩ ?_
  · intro W' hW
    go_simp
  refine wpR_take7 (i := 9) (oi := _) (v := .pointer (some ⟨g6, 1, none⟩)) rfl (by kernel_rfl) (by kernel_rfl) (by kernel_rfl) (by kernel_rfl) (fun _ _ _ h => h) (Or.inl ⟨by rfl, ?_⟩) ⟨trivial, ((unhide HS4).at 0 rfl).ub.c 1 _ rfl⟩ ?_
  · intro W' hW
    go_simp
  refine wpR_take7 (i := 10) (oi := _) (v := .agg #[.slice a2 l2 c2]) rfl (by kernel_rfl) (by kernel_rfl) (by kernel_rfl) (by kernel_rfl) (fun _ _ _ h => h) (Or.inl ⟨by rfl, ?_⟩) ⟨trivial, ((unhide HS4).at 0 rfl).ub.c 1 _ rfl⟩ ?_
  · intro W' hW
    go_simp
  refine wpR_take7 (i := 11) (oi := _) (v := .int .u64 7205759403792794) rfl (by kernel_rfl) (by kernel_rfl) (by kernel_rfl) (by kernel_rfl) (fun _ _ _ h => h) (Or.inl ⟨by rfl, ?_⟩) ⟨trivial, ((unhide HS4).at 0 rfl).ub.c 1 _ rfl⟩ ?_
  · intro W' hW
    go_simp
  refine wpR_take7 (i := 12) (oi := _) (v := .int .u64 0) rfl (by kernel_rfl) (by kernel_rfl) (by kernel_rfl) (by kernel_rfl) (fun _ _ _ h => h) (Or.inl ⟨by rfl, ?_⟩) ⟨trivial, ((unhide HS4).at 0 rfl).ub.c 1 _ rfl⟩ ?_
  · intro W' hW
    go_simp
  refine wpR_take7 (i := 13) (oi := _) (v := .bool true) rfl (by kernel_rfl) (by kernel_rfl) (by kernel_rfl) (by kernel_rfl) (fun _ _ _ h => h) (Or.inl ⟨by rfl, ?_⟩) ⟨trivial, ((unhide HS4).at 0 rfl).ub.c 1 _ rfl⟩ ?_
  · intro W' hW
    go_simp
  refine wpR_op (i := 3) (o := _) (by kernel_rfl) rfl rfl (fun K hK => ?_)
  go_simp
  refine (parts_any _ _ _ _ _ _ 1 28823037615171176 50 g6 _ ((unhide HS4).at 0 rfl) ((unhide HS4).bgt 1 rfl) (by decide) (by decide) (by decide +kernel) (by decide +kernel)).mono ?_
  rintro e U5 ⟨a3, l3, c3, rfl, hv, hb⟩
  have HS5 := hide (((unhide HS4).later hb).push hv)
  clear HS4
  clear hv hb
  refine hK _ _ ⟨trivial, ((unhide HS5).at 0 rfl).ub.c 1 _ rfl⟩ ?_
  clear hK K
  refine wpR_op (i := 6) (o := _) (by kernel_rfl) rfl rfl (fun K hK => ?_)
  go_simp
  refine (parts_any _ _ _ _ _ _ 1 2 50 g6 _ ((unhide HS5).at 0 rfl) ((unhide HS5).bgt 2 rfl) (by decide) (by decide) (by decide +kernel) (by decide +kernel)).mono ?_
  rintro e U6 ⟨a4, l4, c4, rfl, hv, hb⟩
  have HS6 := hide (((unhide HS5).later hb).push hv)
  clear HS5
  clear hv hb
  refine hK _ _ ⟨trivial, ((unhide HS6).at 0 rfl).ub.c 1 _ rfl⟩ ?_
  clear hK K
  refine wpR_op (i := 8) (o := _) (by kernel_rfl) rfl rfl (fun K hK => ?_)
  go_simp
  refine (parts_any _ _ _ _ _ _ 1 2 50 g6 _ ((unhide HS6).at 0 rfl) ((unhide HS6).bgt 3 rfl) (by decide) (by decide) (by decide +kernel) (by decide +kernel)).mono ?_
  rintro e U7 ⟨a5, l5, c5, rfl, hv, hb⟩
  have HS7 := hide (((unhide HS6).later hb).push hv)
  clear HS6
  clear hv hb
  refine hK _ _ ⟨trivial, ((unhide HS7).at 0 rfl).ub.c 1 _ rfl⟩ ?_
  clear hK K
  refine wpR_op (i := 14) (o := _) (by kernel_rfl) rfl rfl (fun K hK => ?_)
  go_simp
  refine hK _ _ ⟨trivial, ((unhide HS7).at 0 rfl).ub.c 1 _ rfl⟩ ?_
  clear hK K
  refine wpR_late (i := 15) (o := _) (by kernel_rfl) rfl rfl (by kernel_rfl) (fun K hK => ?_)
  refine wp_store_row 128 (.tmp 2) (.tmp 37) rfl w.heap.size #[.slice a3 l3 c3, .slice a4 l4 c4, .slice a5 l5 c5, .slice a2 l2 c2, .bool true] rfl rfl 128 _ ((unhide HS7).at 1 rfl) (by rw [info81]; rfl) rfl (by kernel_rfl) ?_
  have HS8 := hide (((unhide HS7).rot).set nz81 #[.slice a3 l3 c3, .slice a4 l4 c4, .slice a5 l5 c5, .slice a2 l2 c2, .bool true])
  clear HS7
  generalize U7.setRow w.heap.size #[.slice a3 l3 c3, .slice a4 l4 c4, .slice a5 l5 c5, .slice a2 l2 c2, .bool true] = U8 at *
  refine hK _ _ (((unhide HS8).at 1 rfl).ub.c 1 _ rfl) ?_
  clear hK K
  refine wpR_done (by kernel_rfl) ?_
  go_wp2_with fail
  exact bodyPost_ret (v := .agg #[.slice a3 l3 c3, .slice a4 l4 c4, .slice a5 l5 c5, .slice a2 l2 c2, .bool true]) (res81 Tryz.results106 _ _ w.heap.size _ rfl rfl ((unhide HS8).at 0 rfl)) rfl ⟨_, _, _, _, _, _, _, _, _, _, _, _, rfl, ((unhide HS8).bgt 2 rfl), ((unhide HS8).bgt 1 rfl), ((unhide HS8).bgt 0 rfl), ((unhide HS8).bgt 3 rfl), (unhide HS8).below⟩
theorem dec_cond : ∀ n, n < 17 → 0 < n → (1 * 28823037615171176 * (1 * 10 ^ n) % (288230376151711744 * 1) < 1 * 2 * (1 * 10 ^ n) ∧ 1 * 2 * (1 * 10 ^ n) < 288230376151711744 * 1 - 1 * 28823037615171176 * (1 * 10 ^ n) % (288230376151711744 * 1) ∧ 1 * 10 ^ n < 1000000000 ^ 50) := by decide +kernel
theorem dec_any (a1 : Option Addr) (l1 c1 : Nat) (a2 : Option Addr) (l2 c2 : Nat) (a3 : Option Addr) (l3 c3 : Nat) (a4 : Option Addr) (l4 c4 : Nat) (n : Nat) (w : World) (h1 : IsBig w (.agg #[.slice a1 l1 c1]) (1 * 28823037615171176)) (h2 : IsBig w (.agg #[.slice a2 l2 c2]) (1 * 2)) (h3 : IsBig w (.agg #[.slice a3 l3 c3]) (1 * 2)) (h4 : IsBig w (.agg #[.slice a4 l4 c4]) 288230376151711744) (hn : n < 17) (h0 : 0 < n) :
    Calls Tryz.prog 110 #[.agg #[.slice a1 l1 c1, .slice a2 l2 c2, .slice a3 l3 c3, .slice a4 l4 c4, .bool true], .int .i64 (n : Int), .int .i64 0] w fun e w' => ∃ a l c, e = .returned (.tuple #[.agg #[.slice a l c], .bool true]) ∧ IsBig w' (.agg #[.slice a l c]) (1 * 28823037615171176 * (1 * 10 ^ n) / (288230376151711744 * 1)) ∧ Below w.heap.size w w' :=
  decimal_low _ _ _ _ _ _ _ _ _ _ _ _ true (1 * 28823037615171176) (1 * 2) (1 * 2) 288230376151711744 (1 * 10 ^ n) n 50 w h1 h2 h3 h4 (by omega) (fun W => tenToN n (1 * 10 ^ n) h0 (by omega) rfl W) (by decide) (by decide) ⟨by decide +kernel, by decide +kernel, by decide +kernel, by decide +kernel, (dec_cond n hn h0).2.2, by decide +kernel⟩ (dec_cond n hn h0).1 (dec_cond n hn h0).2.1
theorem short1_any (a1 : Option Addr) (l1 c1 : Nat) (a2 : Option Addr) (l2 c2 : Nat) (a3 : Option Addr) (l3 c3 : Nat) (a4 : Option Addr) (l4 c4 : Nat) (h gr gn : Nat) (w : World) (h1 : IsBig w (.agg #[.slice a1 l1 c1]) (1 * 28823037615171176)) (h2 : IsBig w (.agg #[.slice a2 l2 c2]) (1 * 2)) (h3 : IsBig w (.agg #[.slice a3 l3 c3]) (1 * 2)) (h4 : IsBig w (.agg #[.slice a4 l4 c4]) 288230376151711744) (hh : h < 16) (hr : OwnU w gr 128 #[.slice a1 l1 c1, .slice a2 l2 c2, .slice a3 l3 c3, .slice a4 l4 c4, .bool true]) (hnb : OwnU w gn 3 #[.int .i64 0]) :
    Calls Tryz.prog 109 #[.int .i64 (h : Int), .pointer (some ⟨gr, 0, none⟩), .pointer (some ⟨gn, 0, none⟩)] w fun e w' => e = .returned (.bool true) ∧ Below w.heap.size w w' := by
  have hdec : Calls Tryz.prog 110 #[.agg #[.slice a1 l1 c1, .slice a2 l2 c2, .slice a3 l3 c3, .slice a4 l4 c4, .bool true], .int .i64 ((h : Int) + 1), .int .i64 0] w fun e w' => ∃ a l c, e = .returned (.tuple #[.agg #[.slice a l c], .bool true]) ∧ Below w.heap.size w w' := by
    have e : ((h : Int) + 1) = ((h + 1 : Nat) : Int) := by omega
    rw [e]
    refine (dec_any _ _ _ _ _ _ _ _ _ _ _ _ (h + 1) w h1 h2 h3 h4 (by omega) (by omega)).mono ?_
    rintro e w' ⟨a, l, c, rfl, _, hb⟩
    exact ⟨a, l, c, rfl, hb⟩
  have u0 : w.cell? ⟨gr, 0, none⟩ = some (.slice a1 l1 c1) := hr.ub.c 0 _ rfl
  have u1 : w.cell? ⟨gr, 1, none⟩ = some (.slice a2 l2 c2) := hr.ub.c 1 _ rfl
  have u2 : w.cell? ⟨gr, 2, none⟩ = some (.slice a3 l3 c3) := hr.ub.c 2 _ rfl
  have u3 : w.cell? ⟨gr, 3, none⟩ = some (.slice a4 l4 c4) := hr.ub.c 3 _ rfl
  have u4 : w.cell? ⟨gr, 4, none⟩ = some (.bool true) := hr.ub.c 4 _ rfl
  have u5 : w.cell? ⟨gn, 0, none⟩ = some (.int .i64 0) := hnb.ub.c 0 _ rfl
  have hw : IntKind.i64.wrap ((h : Int) + 1) = (h : Int) + 1 := by rw [IntKind.wrap_i64]; omega
  have HDEC := hide hdec
  clear h1 h2 h3 h4 hr hnb hdec
  go_enter Tryz.func109, Tryz.ntmps109
  go_wp2_with (go_at_call 110; go_must (refine (unhide HDEC).mono ?_; rintro e w1 ⟨a5, l5, c5, rfl, hb⟩; have HB := hide hb; clear hb u0 u1 u2 u3 u4 u5))
  go_ret
  exact ⟨rfl, (unhide HB).alloc (unhide HB).size _⟩
theorem search_any (a1 : Option Addr) (l1 c1 : Nat) (a2 : Option Addr) (l2 c2 : Nat) (a3 : Option Addr) (l3 c3 : Nat) (a4 : Option Addr) (l4 c4 : Nat) (gr gn : Nat) (w : World) (h1 : IsBig w (.agg #[.slice a1 l1 c1]) (1 * 28823037615171176)) (h2 : IsBig w (.agg #[.slice a2 l2 c2]) (1 * 2)) (h3 : IsBig w (.agg #[.slice a3 l3 c3]) (1 * 2)) (h4 : IsBig w (.agg #[.slice a4 l4 c4]) 288230376151711744) (hr : OwnU w gr 128 #[.slice a1 l1 c1, .slice a2 l2 c2, .slice a3 l3 c3, .slice a4 l4 c4, .bool true]) (hnb : OwnU w gn 3 #[.int .i64 0]) :
    Calls Tryz.prog 108 #[.int .i64 16, .func (.func 109) #[] #[.pointer (some ⟨gr, 0, none⟩), .pointer (some ⟨gn, 0, none⟩)]] w fun e w' => e = .returned (.int .i64 0) ∧ Below w.heap.size w w' := by
  have hC : ∀ (h : Nat) W, h < 16 → Below w.heap.size w W → Calls Tryz.prog 109 #[.int .i64 (h : Int), .pointer (some ⟨gr, 0, none⟩), .pointer (some ⟨gn, 0, none⟩)] W fun e w' => e = .returned (.bool true) ∧ Below W.heap.size W w' := fun h W hh hb => short1_any _ _ _ _ _ _ _ _ _ _ _ _ h gr gn W (h1.later hb) (h2.later hb) (h3.later hb) (h4.later hb) hh (hr.later hb) (hnb.later hb)
  have HC := hide hC
  have HB0 : Hid (Below w.heap.size w w) := Below.refl _ _
  clear h1 h2 h3 h4 hr hnb hC
  go_enter Tryz.func108, Tryz.ntmps108
  go_wp2_with fail
  go_loopw [5, 6] (fun i j wr => i = .int .i64 0 ∧ (j = .int .i64 16 ∨ j = .int .i64 8 ∨ j = .int .i64 4 ∨ j = .int .i64 2 ∨ j = .int .i64 1 ∨ j = .int .i64 0) ∧ Hid (Below w.heap.size w wr)) (fun _ j _ => (intOf j).toNat)
  case atStart => exact ⟨rfl, Or.inl rfl, HB0⟩
  case round =>
    obtain ⟨rfl, h, HB⟩ := hrel
    rcases h with rfl | rfl | rfl | rfl | rfl | rfl
    · go_wp2_with (go_at_call 109; go_must (refine (unhide HC 8 _ (by decide) (unhide HB)).mono ?_; rintro e w1 ⟨rfl, hb⟩; have HB1 : Hid (Below w.heap.size w w1) := (unhide HB).trans (hb.mono (unhide HB).size); clear hb))
      go_roundw
      case rel => exact ⟨rfl, Or.inr (Or.inl rfl), HB1⟩
      case measure => decide
    · go_wp2_with (go_at_call 109; go_must (refine (unhide HC 4 _ (by decide) (unhide HB)).mono ?_; rintro e w1 ⟨rfl, hb⟩; have HB1 : Hid (Below w.heap.size w w1) := (unhide HB).trans (hb.mono (unhide HB).size); clear hb))
      go_roundw
      case rel => exact ⟨rfl, Or.inr (Or.inr (Or.inl rfl)), HB1⟩
      case measure => decide
    · go_wp2_with (go_at_call 109; go_must (refine (unhide HC 2 _ (by decide) (unhide HB)).mono ?_; rintro e w1 ⟨rfl, hb⟩; have HB1 : Hid (Below w.heap.size w w1) := (unhide HB).trans (hb.mono (unhide HB).size); clear hb))
      go_roundw
      case rel => exact ⟨rfl, Or.inr (Or.inr (Or.inr (Or.inl rfl))), HB1⟩
      case measure => decide
    · go_wp2_with (go_at_call 109; go_must (refine (unhide HC 1 _ (by decide) (unhide HB)).mono ?_; rintro e w1 ⟨rfl, hb⟩; have HB1 : Hid (Below w.heap.size w w1) := (unhide HB).trans (hb.mono (unhide HB).size); clear hb))
      go_roundw
      case rel => exact ⟨rfl, Or.inr (Or.inr (Or.inr (Or.inr (Or.inl rfl)))), HB1⟩
      case measure => decide
    · go_wp2_with (go_at_call 109; go_must (refine (unhide HC 0 _ (by decide) (unhide HB)).mono ?_; rintro e w1 ⟨rfl, hb⟩; have HB1 : Hid (Below w.heap.size w w1) := (unhide HB).trans (hb.mono (unhide HB).size); clear hb))
      go_roundw
      case rel => exact ⟨rfl, Or.inr (Or.inr (Or.inr (Or.inr (Or.inr (rfl))))), HB1⟩
      case measure => decide
    · go_wp2_with fail
      go_ret
      exact ⟨rfl, unhide HB⟩
end Go.Proofs.YtijifpbpjinmhaaGreatDoor
namespace Go.Proofs
open Go.Shelf
def Tryz.laysPu14_ren : Go.Shelf.Ren := ⟨fun | 14 => 225 | 16 => 230 | 17 => 189 | 19 => 233 | 20 => 234 | 21 => 216 | 22 => 217 | 23 => 218 | 24 => 219 | 25 => 231 | 27 => 105 | 26 => 232 | 28 => 158 | 29 => 196 | 30 => 175 | 31 => 176 | 32 => 177 | 33 => 178 | 35 => 204 | 34 => 209 | 36 => 210 | 37 => 211 | 38 => 212 | 39 => 226 | 40 => 227 | n => n, fun | 9 => 9 | 3 => 3 | 22 => 41 | 24 => 165 | 25 => 233 | 4 => 4 | 34 => 223 | 5 => 5 | 36 => 109 | 37 => 46 | 0 => 0 | 39 => 226 | 21 => 21 | 44 => 237 | 47 => 210 | 50 => 248 | 48 => 246 | 2 => 2 | 52 => 190 | 55 => 193 | 59 => 221 | 60 => 205 | 20 => 20 | 61 => 222 | 65 => 243 | 66 => 244 | 67 => 64 | n => n, fun | 0 => 3 | 1 => 4 | 2 => 1 | 3 => 7 | 4 => 8 | n => n⟩
theorem Tryz.laysPu14 : Go.Proofs.LaysPu.n14 Tryz.prog Tryz.laysPu14_ren := {
  mixed := by kernel_rfl
  f14 := Tryz.func225.trans (congrArg some (by kernel_rfl))
  f16 := Tryz.func230.trans (congrArg some (by kernel_rfl))
  f17 := Tryz.func189.trans (congrArg some (by kernel_rfl))
  f19 := Tryz.func233.trans (congrArg some (by kernel_rfl))
  f20 := Tryz.func234.trans (congrArg some (by kernel_rfl))
  f21 := Tryz.func216.trans (congrArg some (by kernel_rfl))
  f22 := Tryz.func217.trans (congrArg some (by kernel_rfl))
  f23 := Tryz.func218.trans (congrArg some (by kernel_rfl))
  f24 := Tryz.func219.trans (congrArg some (by kernel_rfl))
  f25 := Tryz.func231.trans (congrArg some (by kernel_rfl))
  f26 := Tryz.func232.trans (congrArg some (by kernel_rfl))
  f27 := Tryz.func105.trans (congrArg some (by kernel_rfl))
  f28 := Tryz.func158.trans (congrArg some (by kernel_rfl))
  f29 := Tryz.func196.trans (congrArg some (by kernel_rfl))
  f30 := Tryz.func175.trans (congrArg some (by kernel_rfl))
  f31 := Tryz.func176.trans (congrArg some (by kernel_rfl))
  f32 := Tryz.func177.trans (congrArg some (by kernel_rfl))
  f33 := Tryz.func178.trans (congrArg some (by kernel_rfl))
  f34 := Tryz.func209.trans (congrArg some (by kernel_rfl))
  f35 := Tryz.func204.trans (congrArg some (by kernel_rfl))
  f36 := Tryz.func210.trans (congrArg some (by kernel_rfl))
  f37 := Tryz.func211.trans (congrArg some (by kernel_rfl))
  f38 := Tryz.func212.trans (congrArg some (by kernel_rfl))
  f39 := Tryz.func226.trans (congrArg some (by kernel_rfl))
  f40 := Tryz.func227.trans (congrArg some (by kernel_rfl))
  t0 := Tryz.underlying0
  a0 := Tryz.isAgg0
  z0 := Tryz.sizeOf0
  v0 := Tryz.zeroValue0
  i0 := by kernel_rfl
  t2 := Tryz.underlying2
  a2 := Tryz.isAgg2
  z2 := Tryz.sizeOf2
  v2 := Tryz.zeroValue2
  i2 := by kernel_rfl
  t3 := Tryz.underlying3
  a3 := Tryz.isAgg3
  z3 := Tryz.sizeOf3
  v3 := Tryz.zeroValue3
  i3 := by kernel_rfl
  t4 := Tryz.underlying4
  a4 := Tryz.isAgg4
  z4 := Tryz.sizeOf4
  v4 := Tryz.zeroValue4
  i4 := by kernel_rfl
  t5 := Tryz.underlying5
  a5 := Tryz.isAgg5
  z5 := Tryz.sizeOf5
  v5 := Tryz.zeroValue5
  i5 := by kernel_rfl
  t9 := Tryz.underlying9
  a9 := Tryz.isAgg9
  z9 := Tryz.sizeOf9
  v9 := Tryz.zeroValue9
  i9 := by kernel_rfl
  t20 := Tryz.underlying20
  a20 := Tryz.isAgg20
  z20 := Tryz.sizeOf20
  v20 := Tryz.zeroValue20
  i20 := by kernel_rfl
  t21 := Tryz.underlying21
  a21 := Tryz.isAgg21
  z21 := Tryz.sizeOf21
  v21 := Tryz.zeroValue21
  i21 := by kernel_rfl
  t22 := Tryz.underlying41
  a22 := Tryz.isAgg41
  z22 := Tryz.sizeOf41
  v22 := Tryz.zeroValue41
  i22 := by kernel_rfl
  t24 := Tryz.underlying165
  a24 := Tryz.isAgg165
  z24 := Tryz.sizeOf165
  v24 := Tryz.zeroValue165
  i24 := by kernel_rfl
  t25 := Tryz.underlying233
  a25 := Tryz.isAgg233
  z25 := Tryz.sizeOf233
  v25 := Tryz.zeroValue233
  i25 := by kernel_rfl
  t34 := Tryz.underlying223
  a34 := Tryz.isAgg223
  z34 := Tryz.sizeOf223
  v34 := Tryz.zeroValue223
  i34 := by kernel_rfl
  c34 := by kernel_rfl
  t36 := Tryz.underlying109
  a36 := Tryz.isAgg109
  z36 := Tryz.sizeOf109
  v36 := Tryz.zeroValue109
  i36 := by kernel_rfl
  t37 := Tryz.underlying46
  a37 := Tryz.isAgg46
  z37 := Tryz.sizeOf46
  v37 := Tryz.zeroValue46
  i37 := by kernel_rfl
  t39 := Tryz.underlying226
  a39 := Tryz.isAgg226
  z39 := Tryz.sizeOf226
  v39 := Tryz.zeroValue226
  i39 := by kernel_rfl
  t44 := Tryz.underlying237
  a44 := Tryz.isAgg237
  z44 := Tryz.sizeOf237
  v44 := Tryz.zeroValue237
  i44 := by kernel_rfl
  t47 := Tryz.underlying210
  a47 := Tryz.isAgg210
  z47 := Tryz.sizeOf210
  v47 := Tryz.zeroValue210
  i47 := by kernel_rfl
  t48 := Tryz.underlying246
  a48 := Tryz.isAgg246
  z48 := Tryz.sizeOf246
  v48 := Tryz.zeroValue246
  i48 := by kernel_rfl
  t50 := Tryz.underlying248
  a50 := Tryz.isAgg248
  z50 := Tryz.sizeOf248
  v50 := Tryz.zeroValue248
  i50 := by kernel_rfl
  t52 := Tryz.underlying190
  a52 := Tryz.isAgg190
  z52 := Tryz.sizeOf190
  v52 := Tryz.zeroValue190
  i52 := by kernel_rfl
  t55 := Tryz.underlying193
  a55 := Tryz.isAgg193
  z55 := Tryz.sizeOf193
  v55 := Tryz.zeroValue193
  i55 := by kernel_rfl
  t59 := Tryz.underlying221
  a59 := Tryz.isAgg221
  z59 := Tryz.sizeOf221
  v59 := Tryz.zeroValue221
  i59 := by kernel_rfl
  t60 := Tryz.underlying205
  a60 := Tryz.isAgg205
  z60 := Tryz.sizeOf205
  v60 := Tryz.zeroValue205
  i60 := by kernel_rfl
  t61 := Tryz.underlying222
  a61 := Tryz.isAgg222
  z61 := Tryz.sizeOf222
  t65 := Tryz.underlying243
  a65 := Tryz.isAgg243
  z65 := Tryz.sizeOf243
  v65 := Tryz.zeroValue243
  i65 := by kernel_rfl
  t66 := Tryz.underlying244
  a66 := Tryz.isAgg244
  z66 := Tryz.sizeOf244
  v66 := Tryz.zeroValue244
  i66 := by kernel_rfl
  t67 := Tryz.underlying64
  a67 := Tryz.isAgg64
  z67 := Tryz.sizeOf64
  v67 := Tryz.zeroValue64
  i67 := by kernel_rfl
  g0 := by kernel_rfl
  m0 := by kernel_rfl
  g1 := by kernel_rfl
  m1 := by kernel_rfl
  g2 := by kernel_rfl
  m2 := by kernel_rfl
  g3 := by kernel_rfl
  m3 := by kernel_rfl
  g4 := by kernel_rfl
  m4 := by kernel_rfl }
open Go.RowKit in
theorem Tryz.strconv_ParseUint_10_at64_ok (s : ByteArray) (hmax : s.size ≤ 9223372036854775806) (u : Nat) (h : Lib.parseUintB 64 s.data.toList = .ok u) (w : World) :
    Calls Tryz.prog 225 #[.string s, .int .i64 10, .int .i64 64] w fun e w' => e = .returned (.tuple #[.int .u64 u, .nilIface]) ∧ (w' = w ∨ w' = Lib.bytesWorld w 5 s) := Any.strconv_ParseUint_10_at64_ok Tryz.laysPu14 s hmax u h w
end Go.Proofs

/- The library contracts that the proofs use, laid at this program: each is the contract itself at the numbers of this program. -/
import Derived.Test.YtedohdcjichanaaGreatDoorAway
import Derived.Test.YtedohdcjichanaaGreatDoorIntRows
import Derived.Test.YtedohdcjichanaaGreatDoorDec
import Derived.Laws.EntriesVeiled
import Derived.Shelf.Strings.Builder1
import Derived.Shelf.Strings.Builder2
import Derived.Shelf.Small.Bits
import Derived.Shelf.Small.Wraps
import Derived.Shelf.Strings.BuilderF
import Derived.Shelf.Strings.BuilderK
import Derived.Shelf.Strings.Builder2Cap
import Derived.Shelf.Strconv.Itoa0
import Derived.Shelf.Strconv.Itoa1
import Derived.Shelf.LaysM
import Derived.Shelf.Strconv.Itoa2
import Derived.Shelf.Strconv.Itoa3
import Derived.Ground.MpProg
import Derived.Shelf.Pu.ParseUintPublic10
import Derived.Shelf.Pu.ErrVarParseUint
import Derived.Shelf.Strconv.AppendUint10
import Derived.Shelf.Strconv.AppendInt10
import Derived.Shelf.Strings.Prefix
import Derived.Ground.Names2Prog
import Derived.Shelf.Slices.SearchI
import Derived.Test.YtedohdcjichanaaGreatDoorProg
namespace Go.Proofs.YtedohdcjichanaaGreatDoor
open Go.RowKit
theorem twoToN (n P k : Nat) (hp : 0 < n) (hn : n ≤ 4000) (hP : 2 ^ n = P) (hk1 : 1 ≤ k) (hk : k ≤ 1000000) (hl : P < 1000000000 ^ k) (h2 : 2 < 1000000000 ^ k) (W : World) : Calls Tryz.prog 43 #[.int .i64 (-(n : Int))] W fun e w' => ∃ v, e = .returned v ∧ IsSz w' v 1 P ∧ Below W.heap.size W w' :=
  twoTo_neg n P W hp hn (fun V x hx => by rw [← hP] at hl ⊢; exact bigPow_any x 2 n k V hx (by omega) hk1 hk hl h2)
theorem twoToP (n P k : Nat) (hn : n ≤ 4000) (hP : 2 ^ n = P) (hk1 : 1 ≤ k) (hk : k ≤ 1000000) (hl : P < 1000000000 ^ k) (h2 : 2 < 1000000000 ^ k) (W : World) : Calls Tryz.prog 43 #[.int .i64 (n : Int)] W fun e w' => ∃ v, e = .returned v ∧ IsSz w' v P 1 ∧ Below W.heap.size W w' :=
  twoTo_pos n P W hn (fun V x hx => by rw [← hP] at hl ⊢; exact bigPow_any x 2 n k V hx (by omega) hk1 hk hl h2)
theorem tenToN (n P : Nat) (hp : 0 < n) (hn : n ≤ 4000) (hP : 1 * 10 ^ n = P) (W : World) : Calls Tryz.prog 80 #[.int .i64 (-(n : Int))] W fun e w' => ∃ v, e = .returned v ∧ IsSz w' v 1 P ∧ Below W.heap.size W w' :=
  tenTo_neg n P W hp hn (fun V x hx => by rw [← hP]; exact shift_any x 1 n 1 V hx (by decide) (by decide) (by omega))
/-- A float's size: its numerator, its denominator. -/
def SizeAns (f a c : Nat) : Prop := ∀ W : World, Calls Tryz.prog 94 #[.float .f64 f] W fun e w' => ∃ v, e = .returned v ∧ IsSz w' v a c ∧ Below W.heap.size W w'
theorem size_lo : SizeAns 4591870180066957721 (7205759403792793 * 1) (1 * 2 ^ 56) := fun W => sizeOf_any 4591870180066957721 7205759403792793 (-56) 1 (2 ^ 56) 50 W cut_lo (by decide) (twoToN 56 (2 ^ 56) 50 (by decide) (by decide) rfl (by decide) (by decide) (by decide +kernel) (by decide +kernel)) (by decide) (by decide +kernel)
theorem size_hi : SizeAns 4591870180066957722 (7205759403792794 * 1) (1 * 2 ^ 56) := fun W => sizeOf_any 4591870180066957722 7205759403792794 (-56) 1 (2 ^ 56) 50 W cut_hi (by decide) (twoToN 56 (2 ^ 56) 50 (by decide) (by decide) rfl (by decide) (by decide) (by decide +kernel) (by decide +kernel)) (by decide) (by decide +kernel)
theorem sizeZ (P : Nat) (hP : 2 ^ 1074 = P) (hl : P < 1000000000 ^ 50) : SizeAns 0 (0 * 1) (1 * P) := fun W => sizeOf_any 0 0 (-1074) 1 P 50 W cut_zero (by decide) (twoToN 1074 P 50 (by decide) (by decide) hP (by decide) (by decide) hl (by decide +kernel)) (by decide) ⟨by decide +kernel, by decide +kernel, by decide +kernel, hl⟩
attribute [local go_sem] run_bits run_from
def nearO (c : Int) (f : Nat) : Bool := decide (c < 0) || (decide (c = 0) && decide (f % 2 = 0))
set_option maxRecDepth 100000 in
set_option maxHeartbeats 4000000 in
theorem nearer_any (a1 : Option Addr) (l1 c1' : Nat) (a2 : Option Addr) (l2 c2' : Nat) (p q d1 c1 d2 c2 k f g gx : Nat) (c : Int) (w : World) (hx : OwnU w gx 59 #[.slice a1 l1 c1', .slice a2 l2 c2']) (hp : IsBig w (.agg #[.slice a1 l1 c1']) p) (hq : IsBig w (.agg #[.slice a2 l2 c2']) q)
    (haf : ∀ W, Below w.heap.size w W → Calls Tryz.prog 68 #[.agg #[.slice a1 l1 c1', .slice a2 l2 c2'], .float .f64 f] W fun e w' => ∃ v, e = .returned v ∧ IsSz w' v d1 c1 ∧ Below W.heap.size W w') (hag : ∀ W, Below w.heap.size w W → Calls Tryz.prog 68 #[.agg #[.slice a1 l1 c1', .slice a2 l2 c2'], .float .f64 g] W fun e w' => ∃ v, e = .returned v ∧ IsSz w' v d2 c2 ∧ Below W.heap.size W w')
    (hk : k ≤ 1000000) (hl : d1 < 1000000000 ^ k ∧ c1 < 1000000000 ^ k ∧ d2 < 1000000000 ^ k ∧ c2 < 1000000000 ^ k) (hc : Cub.cmpN (d1 * c2) (d2 * c1) = c) (hcc : c = -1 ∨ c = 0 ∨ c = 1) :
    Calls Tryz.prog 67 #[.float .f64 f, .float .f64 g, .pointer (some ⟨gx, 0, none⟩)] w fun e w' => e = .returned (.bool (nearO c f)) ∧ Below w.heap.size w w' := by
  have hxs : ∀ W, Below w.heap.size w W → OwnU W gx 59 #[.slice a1 l1 c1', .slice a2 l2 c2'] := fun W hb => hx.later hb
  have HP0 := hide hp
  have HQ0 := hide hq
  have HXS := hide hxs
  have HAF := hide haf
  have HAG := hide hag
  have HK := hide hk
  have HL := hide hl
  have HB : Hid (Below w.heap.size w w) := Below.refl _ _
  have hcs : Cub.cmpN (d1 * c2) (d2 * c1) = c := hc
  have HC := hide hcs
  clear hp hq hx hxs haf hag hk hl hc hcs
  go_enter Tryz.func67, Tryz.ntmps67
  go_upto_region 1 with fail
  have HS0 : Hid (St w [] [] w) := St.nil (Below.refl _ _)
  clear HB
  refine region_reads 7 (fun _ => True) (fun W' => W'.cell? ⟨gx, 0, none⟩ = some (.slice a1 l1 c1') ∧ W'.cell? ⟨gx, 1, none⟩ = some (.slice a2 l2 c2')) 8 rfl (by kernel_rfl) ?_
  have HS1 := hide ((unhide HS0).later ((Below.refl _ _).drew))
  clear HS0
  generalize w.drew = U0 at *
  refine wpR_take7 (i := 0) (oi := _) (v := .agg #[.slice a1 l1 c1', .slice a2 l2 c2']) rfl (by kernel_rfl) (by kernel_rfl) (by kernel_rfl) (by kernel_rfl) (fun _ _ _ h => h) (Or.inl ⟨by rfl, ?_⟩) ⟨trivial, ⟨(unhide HXS _ (unhide HS1).below).ub.c 0 _ rfl, (unhide HXS _ (unhide HS1).below).ub.c 1 _ rfl⟩⟩ ?_
  · intro W' hW
    go_split_ands
    go_simp
  refine wpR_take7 (i := 1) (oi := _) (v := .float .f64 f) rfl (by kernel_rfl) (by kernel_rfl) (by kernel_rfl) (by kernel_rfl) (fun _ _ _ h => h) (Or.inl ⟨by rfl, ?_⟩) ⟨trivial, ⟨(unhide HXS _ (unhide HS1).below).ub.c 0 _ rfl, (unhide HXS _ (unhide HS1).below).ub.c 1 _ rfl⟩⟩ ?_
  · intro W' hW
    go_split_ands
    go_simp
  refine wpR_take7 (i := 3) (oi := _) (v := .agg #[.slice a1 l1 c1', .slice a2 l2 c2']) rfl (by kernel_rfl) (by kernel_rfl) (by kernel_rfl) (by kernel_rfl) (fun _ _ _ h => h) (Or.inl ⟨by rfl, ?_⟩) ⟨trivial, ⟨(unhide HXS _ (unhide HS1).below).ub.c 0 _ rfl, (unhide HXS _ (unhide HS1).below).ub.c 1 _ rfl⟩⟩ ?_
  · intro W' hW
    go_split_ands
    go_simp
  refine wpR_take7 (i := 4) (oi := _) (v := .float .f64 g) rfl (by kernel_rfl) (by kernel_rfl) (by kernel_rfl) (by kernel_rfl) (fun _ _ _ h => h) (Or.inl ⟨by rfl, ?_⟩) ⟨trivial, ⟨(unhide HXS _ (unhide HS1).below).ub.c 0 _ rfl, (unhide HXS _ (unhide HS1).below).ub.c 1 _ rfl⟩⟩ ?_
  · intro W' hW
    go_split_ands
    go_simp
  refine wpR_op (i := 2) (o := _) (by kernel_rfl) rfl rfl (fun K hK => ?_)
  go_simp
  refine (unhide HAF _ (unhide HS1).below).mono ?_
  rintro e U1 ⟨_, rfl, ⟨a3, l3, c3, a4, l4, c4, rfl, hv1, hv2⟩, hb⟩
  have HS2 := hide ((((unhide HS1).later hb).push hv1).push hv2)
  clear HS1
  clear hv1 hv2 hb
  refine hK _ _ ⟨trivial, ⟨(unhide HXS _ (unhide HS2).below).ub.c 0 _ rfl, (unhide HXS _ (unhide HS2).below).ub.c 1 _ rfl⟩⟩ ?_
  clear hK K
  refine wpR_op (i := 5) (o := _) (by kernel_rfl) rfl rfl (fun K hK => ?_)
  go_simp
  refine (unhide HAG _ (unhide HS2).below).mono ?_
  rintro e U2 ⟨_, rfl, ⟨a5, l5, c5, a6, l6, c6, rfl, hv1, hv2⟩, hb⟩
  have HS3 := hide ((((unhide HS2).later hb).push hv1).push hv2)
  clear HS2
  clear hv1 hv2 hb
  refine hK _ _ ⟨trivial, ⟨(unhide HXS _ (unhide HS3).below).ub.c 0 _ rfl, (unhide HXS _ (unhide HS3).below).ub.c 1 _ rfl⟩⟩ ?_
  clear hK K
  refine wpR_op (i := 6) (o := _) (by kernel_rfl) rfl rfl (fun K hK => ?_)
  go_simp
  refine (szcmp_any _ _ _ _ _ _ _ _ _ _ _ _ d1 c1 d2 c2 k _ ((unhide HS3).bgt 3 rfl) ((unhide HS3).bgt 2 rfl) ((unhide HS3).bgt 1 rfl) ((unhide HS3).bgt 0 rfl) (unhide HK) (unhide HL).1 (unhide HL).2.1 (unhide HL).2.2.1 (unhide HL).2.2.2).mono ?_
  rintro e U3 ⟨rfl, hb⟩
  have HS4 := hide ((unhide HS3).later hb)
  clear HS3
  clear hb
  refine hK _ _ ⟨trivial, ⟨(unhide HXS _ (unhide HS4).below).ub.c 0 _ rfl, (unhide HXS _ (unhide HS4).below).ub.c 1 _ rfl⟩⟩ ?_
  clear hK K
  rw [unhide HC]
  refine wpR_late (i := 7) (o := _) (by kernel_rfl) rfl rfl (by kernel_rfl) (fun K hK => ?_)
  go_simp
  refine hK _ _ (⟨(unhide HXS _ (unhide HS4).below).ub.c 0 _ rfl, (unhide HXS _ (unhide HS4).below).ub.c 1 _ rfl⟩) ?_
  clear hK K
  refine wpR_done (by kernel_rfl) ?_
  rcases hcc with rfl | rfl | rfl
  · skip
    go_wp2_with fail
    go_ret
    exact ⟨by simp [nearO], (unhide HS4).below⟩
  · rcases Nat.mod_two_eq_zero_or_one f with h | h
    · have h2 : (f : Int) % 2 = 0 := by omega
      go_wp2_with fail
      go_ret
      exact ⟨by simp [nearO, h], (unhide HS4).below⟩
    · have h2 : (f : Int) % 2 = 1 := by omega
      go_wp2_with fail
      go_ret
      exact ⟨by simp [nearO, h], (unhide HS4).below⟩
  · skip
    go_wp2_with fail
    go_ret
    exact ⟨by simp [nearO], (unhide HS4).below⟩
end Go.Proofs.YtedohdcjichanaaGreatDoor

namespace Go.Proofs.YtedohdcjichanaaGreatDoor
open Go.RowKit
theorem info81 : (Tryz.prog.info? 81).map (·.size) = some 5 := by kernel_rfl
theorem nz81 : ∀ (i : Nat) x, (#[.slice none 0 0, .slice none 0 0, .slice none 0 0, .slice none 0 0, .bool false] : Array Value)[i]? = some x → ∀ k n, x ≠ .int k n
  | 0, _, h => by cases h; exact NI _ _ _
  | 1, _, h => by cases h; exact NI _ _ _
  | 2, _, h => by cases h; exact NI _ _ _
  | 3, _, h => by cases h; exact NI _ _ _
  | 4, _, h => by cases h; exact fun _ _ e => by cases e
  | i + 5, _, h => by simp at h
theorem res81 {fn : Func} {p : Tmp} (h : fn.results = #[.cell p 81]) (tmps : Array Value) (w : World) (g : Nat) (vs : Array Value) (hl : vs.size = 5) (hp : tmps.getD p undef = .pointer (some ⟨g, 0, none⟩)) (ho : OwnU w g 81 vs) :
    (results fn tmps).run Tryz.prog w = .ok (.agg vs) w := by
  rw [results_cell1 h, hp]
  simp only [asAddr, Sem.run_pure, Result.andThen_ok]
  exact run_loadVar_row w g 81 81 vs (0, 0) _ ho Tryz.underlying81 rfl (by rw [info81, hl])
set_option maxRecDepth 100000 in
set_option maxHeartbeats 4000000 in
theorem roomOf_hi (w : World) : Calls Tryz.prog 52 #[.float .f64 4591870180066957722] w fun e w' => ∃ (a1 : Option Addr) (l1 c1 : Nat) (a2 : Option Addr) (l2 c2 : Nat) (a3 : Option Addr) (l3 c3 : Nat) (a4 : Option Addr) (l4 c4 : Nat), e = .returned (.agg #[.slice a1 l1 c1, .slice a2 l2 c2, .slice a3 l3 c3, .slice a4 l4 c4, .bool true]) ∧ IsBig w' (.agg #[.slice a1 l1 c1]) (1 * 28823037615171176) ∧ IsBig w' (.agg #[.slice a2 l2 c2]) (1 * 2) ∧ IsBig w' (.agg #[.slice a3 l3 c3]) (1 * 2) ∧ IsBig w' (.agg #[.slice a4 l4 c4]) 288230376151711744 ∧ Below w.heap.size w w' := by
  have HTW : Hid (∀ W, Calls Tryz.prog 43 #[.int .i64 (-58)] W fun e w' => ∃ v, e = .returned v ∧ IsSz w' v 1 288230376151711744 ∧ Below W.heap.size W w') := fun W => twoToN 58 288230376151711744 50 (by decide) (by decide) (by decide +kernel) (by decide) (by decide) (by decide +kernel) (by decide +kernel) W
  obtain ⟨V, hV⟩ : ∃ V, V = (w.alloc (.cells #[.slice none 0 0, .slice none 0 0, .slice none 0 0, .slice none 0 0, .bool false] 81)) := ⟨_, rfl⟩
  have HS0 : Hid (St w [(w.heap.size, 81, #[.slice none 0 0, .slice none 0 0, .slice none 0 0, .slice none 0 0, .bool false])] [] V) := by rw [hV]; have h := ((St.nil (Below.refl _ w)).new #[.slice none 0 0, .slice none 0 0, .slice none 0 0, .slice none 0 0, .bool false] 81); (try simp only [World.size_alloc] at h); exact h
  have HV := hide hV
  clear hV
  go_enter Tryz.func52, Tryz.ntmps52
  go_upto_region 1 with fail
  rw [← unhide HV]
  clear HV
  go_upto_region 5 with (go_at_call 77; go_must (refine (cut_hi _).mono ?_; rintro e ww ⟨rfl, hw⟩; have hw2 := hw.symm; subst hw2; clear hw))
  go_upto_region 6 with (first
    | (have hchk := HS0; clear hchk; go_at_call 43; go_must (refine (unhide HTW _).mono ?_; rintro e U1 ⟨_, rfl, ⟨a1, l1, c1, a2, l2, c2, rfl, hv1, hv2⟩, hb⟩; have HS1 := hide ((((unhide HS0).later hb).push hv1).push hv2); clear HS0; clear hv1 hv2 hb))
    | (have hchk := HS1; clear hchk; refine storeT 59 2 info59 rfl (.tmp 6) (.tmp 21) rfl U1.heap.size #[.slice none 0 0, .slice none 0 0] #[.slice a1 l1 c1, .slice a2 l2 c2] rfl rfl rfl rfl (OwnU.new _ _ _) (by kernel_rfl) ?_))
  have HS2 := hide ((unhide HS1).new #[.slice none 0 0, .slice none 0 0] 59)
  clear HS1
  generalize U1.alloc (.cells #[.slice none 0 0, .slice none 0 0] 59) = U2 at *
  generalize U1.heap.size = g6 at *
  have HS3 := hide (((unhide HS2)).set (nz2 _ _ _ _ _ _) #[.slice a1 l1 c1, .slice a2 l2 c2])
  clear HS2
  generalize U2.setRow g6 #[.slice a1 l1 c1, .slice a2 l2 c2] = U3 at *
  have hpn : ∀ (a : Act) (v : Value), a.put none v = a := fun _ _ => rfl
  simp only [hpn]
  clear hpn
  have hw4 : IntKind.u64.wrap 28823037615171176 = 28823037615171176 := by decide
  go_upto_region 7 with fail
  refine region_reads 15 (fun _ => True) (fun W' => W'.cell? ⟨g6, 1, none⟩ = some (.slice a2 l2 c2)) 16 rfl (by kernel_rfl) ?_
  have HS4 := hide ((unhide HS3).later ((Below.refl _ _).drew))
  clear HS3
  generalize U3.drew = U4 at *
  refine wpR_take7 (i := 0) (oi := _) (v := .func (.func 78) #[] #[.pointer (some ⟨g6, 0, none⟩)]) rfl (by kernel_rfl) (by kernel_rfl) (by kernel_rfl) (by kernel_rfl) (fun _ _ _ h => h) (Or.inl ⟨by rfl, ?_⟩) ⟨trivial, ((unhide HS4).at 0 rfl).ub.c 1 _ rfl⟩ ?_
  · intro W' hW
    go_simp
  refine wpR_take7 (i := 1) (oi := _) (v := .int .u64 7205759403792794) rfl (by kernel_rfl) (by kernel_rfl) (by kernel_rfl) (by kernel_rfl) (fun _ _ _ h => h) (Or.inl ⟨by rfl, ?_⟩) ⟨trivial, ((unhide HS4).at 0 rfl).ub.c 1 _ rfl⟩ ?_
  · intro W' hW
    go_simp
  refine wpR_take7 (i := 2) (oi := _) (v := .int .u64 28823037615171176) rfl (by kernel_rfl) (by kernel_rfl) (by kernel_rfl) (by kernel_rfl) (fun _ _ _ h => h) (Or.inl ⟨by rfl, ?_⟩) ⟨trivial, ((unhide HS4).at 0 rfl).ub.c 1 _ rfl⟩ ?_
  · intro W' hW
    go_simp
  refine wpR_take7 (i := 4) (oi := _) (v := .func (.func 78) #[] #[.pointer (some ⟨g6, 0, none⟩)]) rfl (by kernel_rfl) (by kernel_rfl) (by kernel_rfl) (by kernel_rfl) (fun _ _ _ h => h) (Or.inl ⟨by rfl, ?_⟩) ⟨trivial, ((unhide HS4).at 0 rfl).ub.c 1 _ rfl⟩ ?_
  · intro W' hW
    go_simp
  refine wpR_take7 (i := 5) (oi := _) (v := .int .u64 2) rfl (by kernel_rfl) (by kernel_rfl) (by kernel_rfl) (by kernel_rfl) (fun _ _ _ h => h) (Or.inl ⟨by rfl, ?_⟩) ⟨trivial, ((unhide HS4).at 0 rfl).ub.c 1 _ rfl⟩ ?_
  · intro W' hW
    go_simp
  refine wpR_take7 (i := 7) (oi := _) (v := .func (.func 78) #[] #[.pointer (some ⟨g6, 0, none⟩)]) rfl (by kernel_rfl) (by kernel_rfl) (by kernel_rfl) (by kernel_rfl) (fun _ _ _ h => h) (Or.inl ⟨by rfl, ?_⟩) ⟨trivial, ((unhide HS4).at 0 rfl).ub.c 1 _ rfl⟩ ?_
  · intro W' hW
    go_simp
  refine wpR_take7 (i := 9) (oi := _) (v := .pointer (some ⟨g6, 1, none⟩)) rfl (by kernel_rfl) (by kernel_rfl) (by kernel_rfl) (by kernel_rfl) (fun _ _ _ h => h) (Or.inl ⟨by rfl, ?_⟩) ⟨trivial, ((unhide HS4).at 0 rfl).ub.c 1 _ rfl⟩ ?_
  · intro W' hW
    go_simp
  refine wpR_take7 (i := 10) (oi := _) (v := .agg #[.slice a2 l2 c2]) rfl (by kernel_rfl) (by kernel_rfl) (by kernel_rfl) (by kernel_rfl) (fun _ _ _ h => h) (Or.inl ⟨by rfl, ?_⟩) ⟨trivial, ((unhide HS4).at 0 rfl).ub.c 1 _ rfl⟩ ?_
  · intro W' hW
    go_simp
  refine wpR_take7 (i := 11) (oi := _) (v := .int .u64 7205759403792794) rfl (by kernel_rfl) (by kernel_rfl) (by kernel_rfl) (by kernel_rfl) (fun _ _ _ h => h) (Or.inl ⟨by rfl, ?_⟩) ⟨trivial, ((unhide HS4).at 0 rfl).ub.c 1 _ rfl⟩ ?_
  · intro W' hW
    go_simp
  refine wpR_take7 (i := 12) (oi := _) (v := .int .u64 0) rfl (by kernel_rfl) (by kernel_rfl) (by kernel_rfl) (by kernel_rfl) (fun _ _ _ h => h) (Or.inl ⟨by rfl, ?_⟩) ⟨trivial, ((unhide HS4).at 0 rfl).ub.c 1 _ rfl⟩ ?_
  · intro W' hW
    go_simp
  refine wpR_take7 (i := 13) (oi := _) (v := .bool true) rfl (by kernel_rfl) (by kernel_rfl) (by kernel_rfl) (by kernel_rfl) (fun _ _ _ h => h) (Or.inl ⟨by rfl, ?_⟩) ⟨trivial, ((unhide HS4).at 0 rfl).ub.c 1 _ rfl⟩ ?_
  · intro W' hW
    go_simp
  refine wpR_op (i := 3) (o := _) (by kernel_rfl) rfl rfl (fun K hK => ?_)
  go_simp
  refine (parts_any _ _ _ _ _ _ 1 28823037615171176 50 g6 _ ((unhide HS4).at 0 rfl) ((unhide HS4).bgt 1 rfl) (by decide) (by decide) (by decide +kernel) (by decide +kernel)).mono ?_
  rintro e U5 ⟨a3, l3, c3, rfl, hv, hb⟩
  have HS5 := hide (((unhide HS4).later hb).push hv)
  clear HS4
  clear hv hb
  refine hK _ _ ⟨trivial, ((unhide HS5).at 0 rfl).ub.c 1 _ rfl⟩ ?_
  clear hK K
  refine wpR_op (i := 6) (o := _) (by kernel_rfl) rfl rfl (fun K hK => ?_)
  go_simp
  refine (parts_any _ _ _ _ _ _ 1 2 50 g6 _ ((unhide HS5).at 0 rfl) ((unhide HS5).bgt 2 rfl) (by decide) (by decide) (by decide +kernel) (by decide +kernel)).mono ?_
  rintro e U6 ⟨a4, l4, c4, rfl, hv, hb⟩
  have HS6 := hide (((unhide HS5).later hb).push hv)
  clear HS5
  clear hv hb
  refine hK _ _ ⟨trivial, ((unhide HS6).at 0 rfl).ub.c 1 _ rfl⟩ ?_
  clear hK K
  refine wpR_op (i := 8) (o := _) (by kernel_rfl) rfl rfl (fun K hK => ?_)
  go_simp
  refine (parts_any _ _ _ _ _ _ 1 2 50 g6 _ ((unhide HS6).at 0 rfl) ((unhide HS6).bgt 3 rfl) (by decide) (by decide) (by decide +kernel) (by decide +kernel)).mono ?_
  rintro e U7 ⟨a5, l5, c5, rfl, hv, hb⟩
  have HS7 := hide (((unhide HS6).later hb).push hv)
  clear HS6
  clear hv hb
  refine hK _ _ ⟨trivial, ((unhide HS7).at 0 rfl).ub.c 1 _ rfl⟩ ?_
  clear hK K
  refine wpR_op (i := 14) (o := _) (by kernel_rfl) rfl rfl (fun K hK => ?_)
  go_simp
  refine hK _ _ ⟨trivial, ((unhide HS7).at 0 rfl).ub.c 1 _ rfl⟩ ?_
  clear hK K
  refine wpR_late (i := 15) (o := _) (by kernel_rfl) rfl rfl (by kernel_rfl) (fun K hK => ?_)
  refine wp_store_row 81 (.tmp 2) (.tmp 37) rfl w.heap.size #[.slice a3 l3 c3, .slice a4 l4 c4, .slice a5 l5 c5, .slice a2 l2 c2, .bool true] rfl rfl 81 _ ((unhide HS7).at 1 rfl) (by rw [info81]; rfl) rfl (by kernel_rfl) ?_
  have HS8 := hide (((unhide HS7).rot).set nz81 #[.slice a3 l3 c3, .slice a4 l4 c4, .slice a5 l5 c5, .slice a2 l2 c2, .bool true])
  clear HS7
  generalize U7.setRow w.heap.size #[.slice a3 l3 c3, .slice a4 l4 c4, .slice a5 l5 c5, .slice a2 l2 c2, .bool true] = U8 at *
  refine hK _ _ (((unhide HS8).at 1 rfl).ub.c 1 _ rfl) ?_
  clear hK K
  refine wpR_done (by kernel_rfl) ?_
  go_wp2_with fail
  exact bodyPost_ret (v := .agg #[.slice a3 l3 c3, .slice a4 l4 c4, .slice a5 l5 c5, .slice a2 l2 c2, .bool true]) (res81 Tryz.results52 _ _ w.heap.size _ rfl rfl ((unhide HS8).at 0 rfl)) rfl ⟨_, _, _, _, _, _, _, _, _, _, _, _, rfl, ((unhide HS8).bgt 2 rfl), ((unhide HS8).bgt 1 rfl), ((unhide HS8).bgt 0 rfl), ((unhide HS8).bgt 3 rfl), (unhide HS8).below⟩
theorem dec_cond : ∀ n, n < 17 → 0 < n → (1 * 28823037615171176 * (1 * 10 ^ n) % (288230376151711744 * 1) < 1 * 2 * (1 * 10 ^ n) ∧ 1 * 2 * (1 * 10 ^ n) < 288230376151711744 * 1 - 1 * 28823037615171176 * (1 * 10 ^ n) % (288230376151711744 * 1) ∧ 1 * 10 ^ n < 1000000000 ^ 50) := by decide +kernel
theorem dec_any (a1 : Option Addr) (l1 c1 : Nat) (a2 : Option Addr) (l2 c2 : Nat) (a3 : Option Addr) (l3 c3 : Nat) (a4 : Option Addr) (l4 c4 : Nat) (n : Nat) (w : World) (h1 : IsBig w (.agg #[.slice a1 l1 c1]) (1 * 28823037615171176)) (h2 : IsBig w (.agg #[.slice a2 l2 c2]) (1 * 2)) (h3 : IsBig w (.agg #[.slice a3 l3 c3]) (1 * 2)) (h4 : IsBig w (.agg #[.slice a4 l4 c4]) 288230376151711744) (hn : n < 17) (h0 : 0 < n) :
    Calls Tryz.prog 56 #[.agg #[.slice a1 l1 c1, .slice a2 l2 c2, .slice a3 l3 c3, .slice a4 l4 c4, .bool true], .int .i64 (n : Int), .int .i64 0] w fun e w' => ∃ a l c, e = .returned (.tuple #[.agg #[.slice a l c], .bool true]) ∧ IsBig w' (.agg #[.slice a l c]) (1 * 28823037615171176 * (1 * 10 ^ n) / (288230376151711744 * 1)) ∧ Below w.heap.size w w' :=
  decimal_low _ _ _ _ _ _ _ _ _ _ _ _ true (1 * 28823037615171176) (1 * 2) (1 * 2) 288230376151711744 (1 * 10 ^ n) n 50 w h1 h2 h3 h4 (by omega) (fun W => tenToN n (1 * 10 ^ n) h0 (by omega) rfl W) (by decide) (by decide) ⟨by decide +kernel, by decide +kernel, by decide +kernel, by decide +kernel, (dec_cond n hn h0).2.2, by decide +kernel⟩ (dec_cond n hn h0).1 (dec_cond n hn h0).2.1
set_option maxRecDepth 100000 in
set_option maxHeartbeats 4000000 in
theorem short1_any (a1 : Option Addr) (l1 c1 : Nat) (a2 : Option Addr) (l2 c2 : Nat) (a3 : Option Addr) (l3 c3 : Nat) (a4 : Option Addr) (l4 c4 : Nat) (h gr gn : Nat) (w : World) (h1 : IsBig w (.agg #[.slice a1 l1 c1]) (1 * 28823037615171176)) (h2 : IsBig w (.agg #[.slice a2 l2 c2]) (1 * 2)) (h3 : IsBig w (.agg #[.slice a3 l3 c3]) (1 * 2)) (h4 : IsBig w (.agg #[.slice a4 l4 c4]) 288230376151711744) (hh : h < 16) (hr : OwnU w gr 81 #[.slice a1 l1 c1, .slice a2 l2 c2, .slice a3 l3 c3, .slice a4 l4 c4, .bool true]) (hnb : OwnU w gn 3 #[.int .i64 0]) :
    Calls Tryz.prog 55 #[.int .i64 (h : Int), .pointer (some ⟨gr, 0, none⟩), .pointer (some ⟨gn, 0, none⟩)] w fun e w' => e = .returned (.bool true) ∧ Below w.heap.size w w' := by
  have hdec : Calls Tryz.prog 56 #[.agg #[.slice a1 l1 c1, .slice a2 l2 c2, .slice a3 l3 c3, .slice a4 l4 c4, .bool true], .int .i64 ((h : Int) + 1), .int .i64 0] w fun e w' => ∃ a l c, e = .returned (.tuple #[.agg #[.slice a l c], .bool true]) ∧ Below w.heap.size w w' := by
    have e : ((h : Int) + 1) = ((h + 1 : Nat) : Int) := by omega
    rw [e]
    refine (dec_any _ _ _ _ _ _ _ _ _ _ _ _ (h + 1) w h1 h2 h3 h4 (by omega) (by omega)).mono ?_
    rintro e w' ⟨a, l, c, rfl, _, hb⟩
    exact ⟨a, l, c, rfl, hb⟩
  have u0 : w.cell? ⟨gr, 0, none⟩ = some (.slice a1 l1 c1) := hr.ub.c 0 _ rfl
  have u1 : w.cell? ⟨gr, 1, none⟩ = some (.slice a2 l2 c2) := hr.ub.c 1 _ rfl
  have u2 : w.cell? ⟨gr, 2, none⟩ = some (.slice a3 l3 c3) := hr.ub.c 2 _ rfl
  have u3 : w.cell? ⟨gr, 3, none⟩ = some (.slice a4 l4 c4) := hr.ub.c 3 _ rfl
  have u4 : w.cell? ⟨gr, 4, none⟩ = some (.bool true) := hr.ub.c 4 _ rfl
  have u5 : w.cell? ⟨gn, 0, none⟩ = some (.int .i64 0) := hnb.ub.c 0 _ rfl
  have hw : IntKind.i64.wrap ((h : Int) + 1) = (h : Int) + 1 := by rw [IntKind.wrap_i64]; omega
  have HDEC := hide hdec
  clear h1 h2 h3 h4 hr hnb hdec
  go_enter Tryz.func55, Tryz.ntmps55
  go_wp2_with (go_at_call 56; go_must (refine (unhide HDEC).mono ?_; rintro e w1 ⟨a5, l5, c5, rfl, hb⟩; have HB := hide hb; clear hb u0 u1 u2 u3 u4 u5))
  go_ret
  exact ⟨rfl, (unhide HB).alloc (unhide HB).size _⟩
set_option maxRecDepth 100000 in
set_option maxHeartbeats 4000000 in
theorem search_any (a1 : Option Addr) (l1 c1 : Nat) (a2 : Option Addr) (l2 c2 : Nat) (a3 : Option Addr) (l3 c3 : Nat) (a4 : Option Addr) (l4 c4 : Nat) (gr gn : Nat) (w : World) (h1 : IsBig w (.agg #[.slice a1 l1 c1]) (1 * 28823037615171176)) (h2 : IsBig w (.agg #[.slice a2 l2 c2]) (1 * 2)) (h3 : IsBig w (.agg #[.slice a3 l3 c3]) (1 * 2)) (h4 : IsBig w (.agg #[.slice a4 l4 c4]) 288230376151711744) (hr : OwnU w gr 81 #[.slice a1 l1 c1, .slice a2 l2 c2, .slice a3 l3 c3, .slice a4 l4 c4, .bool true]) (hnb : OwnU w gn 3 #[.int .i64 0]) :
    Calls Tryz.prog 54 #[.int .i64 16, .func (.func 55) #[] #[.pointer (some ⟨gr, 0, none⟩), .pointer (some ⟨gn, 0, none⟩)]] w fun e w' => e = .returned (.int .i64 0) ∧ Below w.heap.size w w' := by
  have hC : ∀ (h : Nat) W, h < 16 → Below w.heap.size w W → Calls Tryz.prog 55 #[.int .i64 (h : Int), .pointer (some ⟨gr, 0, none⟩), .pointer (some ⟨gn, 0, none⟩)] W fun e w' => e = .returned (.bool true) ∧ Below W.heap.size W w' := fun h W hh hb => short1_any _ _ _ _ _ _ _ _ _ _ _ _ h gr gn W (h1.later hb) (h2.later hb) (h3.later hb) (h4.later hb) hh (hr.later hb) (hnb.later hb)
  have HC := hide hC
  have HB0 : Hid (Below w.heap.size w w) := Below.refl _ _
  clear h1 h2 h3 h4 hr hnb hC
  go_enter Tryz.func54, Tryz.ntmps54
  go_wp2_with fail
  go_loopw [5, 6] (fun i j wr => i = .int .i64 0 ∧ (j = .int .i64 16 ∨ j = .int .i64 8 ∨ j = .int .i64 4 ∨ j = .int .i64 2 ∨ j = .int .i64 1 ∨ j = .int .i64 0) ∧ Hid (Below w.heap.size w wr)) (fun _ j _ => (intOf j).toNat)
  case atStart => exact ⟨rfl, Or.inl rfl, HB0⟩
  case round =>
    obtain ⟨rfl, h, HB⟩ := hrel
    rcases h with rfl | rfl | rfl | rfl | rfl | rfl
    · go_wp2_with (go_at_call 55; go_must (refine (unhide HC 8 _ (by decide) (unhide HB)).mono ?_; rintro e w1 ⟨rfl, hb⟩; have HB1 : Hid (Below w.heap.size w w1) := (unhide HB).trans (hb.mono (unhide HB).size); clear hb))
      go_roundw
      case rel => exact ⟨rfl, Or.inr (Or.inl rfl), HB1⟩
      case measure => decide
    · go_wp2_with (go_at_call 55; go_must (refine (unhide HC 4 _ (by decide) (unhide HB)).mono ?_; rintro e w1 ⟨rfl, hb⟩; have HB1 : Hid (Below w.heap.size w w1) := (unhide HB).trans (hb.mono (unhide HB).size); clear hb))
      go_roundw
      case rel => exact ⟨rfl, Or.inr (Or.inr (Or.inl rfl)), HB1⟩
      case measure => decide
    · go_wp2_with (go_at_call 55; go_must (refine (unhide HC 2 _ (by decide) (unhide HB)).mono ?_; rintro e w1 ⟨rfl, hb⟩; have HB1 : Hid (Below w.heap.size w w1) := (unhide HB).trans (hb.mono (unhide HB).size); clear hb))
      go_roundw
      case rel => exact ⟨rfl, Or.inr (Or.inr (Or.inr (Or.inl rfl))), HB1⟩
      case measure => decide
    · go_wp2_with (go_at_call 55; go_must (refine (unhide HC 1 _ (by decide) (unhide HB)).mono ?_; rintro e w1 ⟨rfl, hb⟩; have HB1 : Hid (Below w.heap.size w w1) := (unhide HB).trans (hb.mono (unhide HB).size); clear hb))
      go_roundw
      case rel => exact ⟨rfl, Or.inr (Or.inr (Or.inr (Or.inr (Or.inl rfl)))), HB1⟩
      case measure => decide
    · go_wp2_with (go_at_call 55; go_must (refine (unhide HC 0 _ (by decide) (unhide HB)).mono ?_; rintro e w1 ⟨rfl, hb⟩; have HB1 : Hid (Below w.heap.size w w1) := (unhide HB).trans (hb.mono (unhide HB).size); clear hb))
      go_roundw
      case rel => exact ⟨rfl, Or.inr (Or.inr (Or.inr (Or.inr (Or.inr (rfl))))), HB1⟩
      case measure => decide
    · go_wp2_with fail
      go_ret
      exact ⟨rfl, unhide HB⟩
end Go.Proofs.YtedohdcjichanaaGreatDoor

namespace Go.Proofs
open Go.Shelf
def Tryz.laysPu14_ren : Go.Shelf.Ren := ⟨fun | 14 => 124 | 16 => 129 | 17 => 130 | 19 => 133 | 20 => 134 | 21 => 135 | 22 => 136 | 23 => 137 | 24 => 138 | 25 => 139 | 27 => 51 | 26 => 140 | 28 => 76 | 29 => 101 | 30 => 118 | 31 => 119 | 32 => 120 | 33 => 121 | 35 => 111 | 34 => 125 | 36 => 126 | 37 => 127 | 38 => 128 | 39 => 131 | 40 => 132 | n => n, fun | 9 => 9 | 3 => 3 | 22 => 39 | 24 => 110 | 25 => 152 | 4 => 4 | 34 => 159 | 5 => 5 | 36 => 101 | 37 => 105 | 0 => 0 | 39 => 161 | 21 => 21 | 44 => 168 | 47 => 132 | 50 => 172 | 48 => 170 | 2 => 2 | 52 => 147 | 55 => 149 | 59 => 156 | 60 => 127 | 20 => 20 | 61 => 157 | 65 => 164 | 66 => 165 | 67 => 88 | n => n, fun | 0 => 5 | 1 => 6 | 2 => 2 | 3 => 3 | 4 => 4 | n => n⟩
theorem Tryz.laysPu14 : Go.Proofs.LaysPu.n14 Tryz.prog Tryz.laysPu14_ren := {
  mixed := by kernel_rfl
  f14 := Tryz.func124.trans (congrArg some (by kernel_rfl))
  f16 := Tryz.func129.trans (congrArg some (by kernel_rfl))
  f17 := Tryz.func130.trans (congrArg some (by kernel_rfl))
  f19 := Tryz.func133.trans (congrArg some (by kernel_rfl))
  f20 := Tryz.func134.trans (congrArg some (by kernel_rfl))
  f21 := Tryz.func135.trans (congrArg some (by kernel_rfl))
  f22 := Tryz.func136.trans (congrArg some (by kernel_rfl))
  f23 := Tryz.func137.trans (congrArg some (by kernel_rfl))
  f24 := Tryz.func138.trans (congrArg some (by kernel_rfl))
  f25 := Tryz.func139.trans (congrArg some (by kernel_rfl))
  f26 := Tryz.func140.trans (congrArg some (by kernel_rfl))
  f27 := Tryz.func51.trans (congrArg some (by kernel_rfl))
  f28 := Tryz.func76.trans (congrArg some (by kernel_rfl))
  f29 := Tryz.func101.trans (congrArg some (by kernel_rfl))
  f30 := Tryz.func118.trans (congrArg some (by kernel_rfl))
  f31 := Tryz.func119.trans (congrArg some (by kernel_rfl))
  f32 := Tryz.func120.trans (congrArg some (by kernel_rfl))
  f33 := Tryz.func121.trans (congrArg some (by kernel_rfl))
  f34 := Tryz.func125.trans (congrArg some (by kernel_rfl))
  f35 := Tryz.func111.trans (congrArg some (by kernel_rfl))
  f36 := Tryz.func126.trans (congrArg some (by kernel_rfl))
  f37 := Tryz.func127.trans (congrArg some (by kernel_rfl))
  f38 := Tryz.func128.trans (congrArg some (by kernel_rfl))
  f39 := Tryz.func131.trans (congrArg some (by kernel_rfl))
  f40 := Tryz.func132.trans (congrArg some (by kernel_rfl))
  t0 := Tryz.underlying0
  a0 := Tryz.isAgg0
  z0 := Tryz.sizeOf0
  v0 := Tryz.zeroValue0
  i0 := by kernel_rfl
  t2 := Tryz.underlying2
  a2 := Tryz.isAgg2
  z2 := Tryz.sizeOf2
  v2 := Tryz.zeroValue2
  i2 := by kernel_rfl
  t3 := Tryz.underlying3
  a3 := Tryz.isAgg3
  z3 := Tryz.sizeOf3
  v3 := Tryz.zeroValue3
  i3 := by kernel_rfl
  t4 := Tryz.underlying4
  a4 := Tryz.isAgg4
  z4 := Tryz.sizeOf4
  v4 := Tryz.zeroValue4
  i4 := by kernel_rfl
  t5 := Tryz.underlying5
  a5 := Tryz.isAgg5
  z5 := Tryz.sizeOf5
  v5 := Tryz.zeroValue5
  i5 := by kernel_rfl
  t9 := Tryz.underlying9
  a9 := Tryz.isAgg9
  z9 := Tryz.sizeOf9
  v9 := Tryz.zeroValue9
  i9 := by kernel_rfl
  t20 := Tryz.underlying20
  a20 := Tryz.isAgg20
  z20 := Tryz.sizeOf20
  v20 := Tryz.zeroValue20
  i20 := by kernel_rfl
  t21 := Tryz.underlying21
  a21 := Tryz.isAgg21
  z21 := Tryz.sizeOf21
  v21 := Tryz.zeroValue21
  i21 := by kernel_rfl
  t22 := Tryz.underlying39
  a22 := Tryz.isAgg39
  z22 := Tryz.sizeOf39
  v22 := Tryz.zeroValue39
  i22 := by kernel_rfl
  t24 := Tryz.underlying110
  a24 := Tryz.isAgg110
  z24 := Tryz.sizeOf110
  v24 := Tryz.zeroValue110
  i24 := by kernel_rfl
  t25 := Tryz.underlying152
  a25 := Tryz.isAgg152
  z25 := Tryz.sizeOf152
  v25 := Tryz.zeroValue152
  i25 := by kernel_rfl
  t34 := Tryz.underlying159
  a34 := Tryz.isAgg159
  z34 := Tryz.sizeOf159
  v34 := Tryz.zeroValue159
  i34 := by kernel_rfl
  c34 := by kernel_rfl
  t36 := Tryz.underlying101
  a36 := Tryz.isAgg101
  z36 := Tryz.sizeOf101
  v36 := Tryz.zeroValue101
  i36 := by kernel_rfl
  t37 := Tryz.underlying105
  a37 := Tryz.isAgg105
  z37 := Tryz.sizeOf105
  v37 := Tryz.zeroValue105
  i37 := by kernel_rfl
  t39 := Tryz.underlying161
  a39 := Tryz.isAgg161
  z39 := Tryz.sizeOf161
  v39 := Tryz.zeroValue161
  i39 := by kernel_rfl
  t44 := Tryz.underlying168
  a44 := Tryz.isAgg168
  z44 := Tryz.sizeOf168
  v44 := Tryz.zeroValue168
  i44 := by kernel_rfl
  t47 := Tryz.underlying132
  a47 := Tryz.isAgg132
  z47 := Tryz.sizeOf132
  v47 := Tryz.zeroValue132
  i47 := by kernel_rfl
  t48 := Tryz.underlying170
  a48 := Tryz.isAgg170
  z48 := Tryz.sizeOf170
  v48 := Tryz.zeroValue170
  i48 := by kernel_rfl
  t50 := Tryz.underlying172
  a50 := Tryz.isAgg172
  z50 := Tryz.sizeOf172
  v50 := Tryz.zeroValue172
  i50 := by kernel_rfl
  t52 := Tryz.underlying147
  a52 := Tryz.isAgg147
  z52 := Tryz.sizeOf147
  v52 := Tryz.zeroValue147
  i52 := by kernel_rfl
  t55 := Tryz.underlying149
  a55 := Tryz.isAgg149
  z55 := Tryz.sizeOf149
  v55 := Tryz.zeroValue149
  i55 := by kernel_rfl
  t59 := Tryz.underlying156
  a59 := Tryz.isAgg156
  z59 := Tryz.sizeOf156
  v59 := Tryz.zeroValue156
  i59 := by kernel_rfl
  t60 := Tryz.underlying127
  a60 := Tryz.isAgg127
  z60 := Tryz.sizeOf127
  v60 := Tryz.zeroValue127
  i60 := by kernel_rfl
  t61 := Tryz.underlying157
  a61 := Tryz.isAgg157
  z61 := Tryz.sizeOf157
  t65 := Tryz.underlying164
  a65 := Tryz.isAgg164
  z65 := Tryz.sizeOf164
  v65 := Tryz.zeroValue164
  i65 := by kernel_rfl
  t66 := Tryz.underlying165
  a66 := Tryz.isAgg165
  z66 := Tryz.sizeOf165
  v66 := Tryz.zeroValue165
  i66 := by kernel_rfl
  t67 := Tryz.underlying88
  a67 := Tryz.isAgg88
  z67 := Tryz.sizeOf88
  v67 := Tryz.zeroValue88
  i67 := by kernel_rfl
  g0 := by kernel_rfl
  m0 := by kernel_rfl
  g1 := by kernel_rfl
  m1 := by kernel_rfl
  g2 := by kernel_rfl
  m2 := by kernel_rfl
  g3 := by kernel_rfl
  m3 := by kernel_rfl
  g4 := by kernel_rfl
  m4 := by kernel_rfl }
open Go.RowKit in
theorem Tryz.strconv_ParseUint_10_at64_ok (s : ByteArray) (hmax : s.size ≤ 9223372036854775806) (u : Nat) (h : Lib.parseUintB 64 s.data.toList = .ok u) (w : World) :
    Calls Tryz.prog 124 #[.string s, .int .i64 10, .int .i64 64] w fun e w' => e = .returned (.tuple #[.int .u64 u, .nilIface]) ∧ (w' = w ∨ w' = Lib.bytesWorld w 5 s) := Any.strconv_ParseUint_10_at64_ok Tryz.laysPu14 s hmax u h w
end Go.Proofs

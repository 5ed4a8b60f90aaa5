/- flo: nat.Int (114) at a text that is right, join (115) and floor (96) at closed numbers. -/
import Derived.Test.YtijifpbpjinmhaaGreatDoorS2
import Derived.Shelf.Strings.Builder1
import Derived.Shelf.Strings.Builder2
import Derived.Shelf.Small.Bits
import Derived.Shelf.Small.Wraps
import Derived.Shelf.Strings.BuilderF
import Derived.Shelf.Strings.BuilderK
import Derived.Shelf.Strings.Builder2Cap
import Derived.Shelf.Strconv.Itoa0
import Derived.Shelf.Strconv.Itoa1
import Derived.Shelf.LaysM
import Derived.Shelf.Strconv.Itoa2
import Derived.Shelf.Strconv.Itoa3
import Derived.Ground.MpProg
import Derived.Shelf.Pu.ParseUintPublic10
import Derived.Shelf.Pu.ErrVarParseUint
import Derived.Shelf.Strconv.AppendUint10
import Derived.Shelf.Strconv.AppendInt10
import Derived.Shelf.Strings.Prefix
import Derived.Ground.Names2Prog
import Derived.Shelf.Slices.SearchI
import Derived.Test.YtijifpbpjinmhaaGreatDoorProg
import Derived.Test.YtijifpbpjinmhaaGreatDoorOrd
import Derived.Test.YtijifpbpjinmhaaGreatDoorRoom
import Derived.Test.YtijifpbpjinmhaaGreatDoorQ
import Derived.Test.YtijifpbpjinmhaaGreatDoorText
set_option maxHeartbeats 4000000
set_option maxRecDepth 100000
namespace Go.Proofs.YtijifpbpjinmhaaGreatDoor
open Go.RowKit
theorem places_any (a1 : Option Addr) (l1 c1 : Nat) (a2 : Option Addr) (l2 c2 : Nat) (p q x y k r t : Nat) (n : Int) (w : World) (hp : IsBig w (.agg #[.slice a1 l1 c1]) p) (hq : IsBig w (.agg #[.slice a2 l2 c2]) q) (hk : k ≤ 500000) (hpl : p < 1000000000 ^ k) (hql : q < 1000000000 ^ k) (hl1 : Lib.nDigits p = x) (hl2 : Lib.nDigits q = y) (hn : (x : Int) - (y : Int) = n) (hnl : -9000 ≤ n ∧ n ≤ 9000) (ht : ∀ W, Calls Tryz.prog 48 #[.int .i64 n] W fun e w' => ∃ v, e = .returned v ∧ IsSz w' v r t ∧ Below W.heap.size W w') (hrs : r < 1000000000 ^ k ∧ t < 1000000000 ^ k) (c res : Int) (hc : Cub.cmpN (p * t) (r * q) = c) (hcr : (c < 0 ∧ res = n) ∨ (¬ c < 0 ∧ res = n + 1)) :
    Calls Tryz.prog 107 #[.agg #[.slice a1 l1 c1, .slice a2 l2 c2]] w fun e w' => e = .returned (.int .i64 res) ∧ Below w.heap.size w w' := by
  have hs1 : IntKind.i64.wrap ((x : Int) - (y : Int)) = (x : Int) - (y : Int) := by rw [IntKind.wrap_i64]; omega
  obtain ⟨V, hV⟩ : ∃ V, V = (w.alloc (.cells #[.slice a1 l1 c1, .slice a2 l2 c2] 54)) := ⟨_, rfl⟩
  have HS0 : Hid (St w [(w.heap.size, 54, #[.slice a1 l1 c1, .slice a2 l2 c2])] [(.agg #[.slice a2 l2 c2], q), (.agg #[.slice a1 l1 c1], p)] V) := by rw [hV]; have h := ((((St.nil (Below.refl _ w)).push hp).push hq).new #[.slice a1 l1 c1, .slice a2 l2 c2] 54); (try simp only [World.size_alloc] at h); exact h
  have HV := hide hV
  have HK := hide hk
  have HPL := hide hpl
  have HQL := hide hql
  have HL1 := hide hl1
  have HL2 := hide hl2
  have HT := hide ht
  have HC := hide hc
  have HCR := hide hcr
  have HRS := hide hrs
  have HN := hide hn
  clear hV hp hq hk hpl hql hl1 hl2 ht hc hrs hn hcr
  go_enter Tryz.func107, Tryz.ntmps107
  have hk6 : k ≤ 1000000 := by have := unhide HK; omega
  have HK6 := hide hk6
  clear hk6
  go_upto_region 1 with fail
  rw [← unhide HV]
  clear HV
  go_cut [3] from 11 (fun s3 wx => s3 = .int .i64 ((x : Int) - (y : Int)) ∧ Hid (St w [(w.heap.size, 54, #[.slice a1 l1 c1, .slice a2 l2 c2])] [(.agg #[.slice a2 l2 c2], q), (.agg #[.slice a1 l1 c1], p)] wx))
  case first =>
    refine region_reads 7 (fun _ => True) (fun W' => W'.cell? ⟨w.heap.size, 0, none⟩ = some (.slice a1 l1 c1) ∧ W'.cell? ⟨w.heap.size, 1, none⟩ = some (.slice a2 l2 c2)) 8 rfl (by kernel_rfl) ?_
    have HS1 := hide ((unhide HS0).later ((Below.refl _ _).drew))
    clear HS0
    generalize V.drew = U0 at *
    refine wpR_take7 (i := 0) (oi := _) (v := .pointer (some ⟨w.heap.size, 0, none⟩)) rfl (by kernel_rfl) (by kernel_rfl) (by kernel_rfl) (by kernel_rfl) (fun _ _ _ h => h) (Or.inl ⟨by rfl, ?_⟩) ⟨trivial, ⟨((unhide HS1).at 0 rfl).ub.c 0 _ rfl, ((unhide HS1).at 0 rfl).ub.c 1 _ rfl⟩⟩ ?_
    · intro W' hW
      go_split_ands
      go_simp
    refine wpR_take7 (i := 1) (oi := _) (v := .agg #[.slice a1 l1 c1]) rfl (by kernel_rfl) (by kernel_rfl) (by kernel_rfl) (by kernel_rfl) (fun _ _ _ h => h) (Or.inl ⟨by rfl, ?_⟩) ⟨trivial, ⟨((unhide HS1).at 0 rfl).ub.c 0 _ rfl, ((unhide HS1).at 0 rfl).ub.c 1 _ rfl⟩⟩ ?_
    · intro W' hW
      go_split_ands
      go_simp
    refine wpR_take7 (i := 3) (oi := _) (v := .pointer (some ⟨w.heap.size, 1, none⟩)) rfl (by kernel_rfl) (by kernel_rfl) (by kernel_rfl) (by kernel_rfl) (fun _ _ _ h => h) (Or.inl ⟨by rfl, ?_⟩) ⟨trivial, ⟨((unhide HS1).at 0 rfl).ub.c 0 _ rfl, ((unhide HS1).at 0 rfl).ub.c 1 _ rfl⟩⟩ ?_
    · intro W' hW
      go_split_ands
      go_simp
    refine wpR_take7 (i := 4) (oi := _) (v := .agg #[.slice a2 l2 c2]) rfl (by kernel_rfl) (by kernel_rfl) (by kernel_rfl) (by kernel_rfl) (fun _ _ _ h => h) (Or.inl ⟨by rfl, ?_⟩) ⟨trivial, ⟨((unhide HS1).at 0 rfl).ub.c 0 _ rfl, ((unhide HS1).at 0 rfl).ub.c 1 _ rfl⟩⟩ ?_
    · intro W' hW
      go_split_ands
      go_simp
    refine wpR_op (i := 2) (o := _) (by kernel_rfl) rfl rfl (fun K hK => ?_)
    go_simp
    refine (lenB _ p k x _ ((unhide HS1).bgt 1 rfl) (unhide HK6) (unhide HPL) (unhide HL1)).mono ?_
    rintro e U1 ⟨rfl, hb⟩
    have HS2 := hide ((unhide HS1).later hb)
    clear HS1
    clear hb
    refine hK _ _ ⟨trivial, ⟨((unhide HS2).at 0 rfl).ub.c 0 _ rfl, ((unhide HS2).at 0 rfl).ub.c 1 _ rfl⟩⟩ ?_
    clear hK K
    refine wpR_op (i := 5) (o := _) (by kernel_rfl) rfl rfl (fun K hK => ?_)
    go_simp
    refine (lenB _ q k y _ ((unhide HS2).bgt 0 rfl) (unhide HK6) (unhide HQL) (unhide HL2)).mono ?_
    rintro e U2 ⟨rfl, hb⟩
    have HS3 := hide ((unhide HS2).later hb)
    clear HS2
    clear hb
    refine hK _ _ ⟨trivial, ⟨((unhide HS3).at 0 rfl).ub.c 0 _ rfl, ((unhide HS3).at 0 rfl).ub.c 1 _ rfl⟩⟩ ?_
    clear hK K
    refine wpR_op (i := 6) (o := _) (by kernel_rfl) rfl rfl (fun K hK => ?_)
    go_simp
    refine hK _ _ ⟨trivial, ⟨((unhide HS3).at 0 rfl).ub.c 0 _ rfl, ((unhide HS3).at 0 rfl).ub.c 1 _ rfl⟩⟩ ?_
    clear hK K
    refine wpR_late (i := 7) (o := _) (by kernel_rfl) rfl rfl (by kernel_rfl) (fun K hK => ?_)
    go_simp
    refine hK _ _ (⟨((unhide HS3).at 0 rfl).ub.c 0 _ rfl, ((unhide HS3).at 0 rfl).ub.c 1 _ rfl⟩) ?_
    clear hK K
    refine wpR_done (by kernel_rfl) ?_
    go_wp2_with fail
    go_meet
    exact ⟨rfl, HS3⟩
  case rest =>
    obtain ⟨rfl, HS0⟩ := hcut
    generalize wc = Y0 at *
    rw [unhide HN]
    clear hs1
    go_upto_region 2 with fail
    refine region_reads 4 (fun _ => True) (fun W' => W'.cell? ⟨w.heap.size, 0, none⟩ = some (.slice a1 l1 c1) ∧ W'.cell? ⟨w.heap.size, 1, none⟩ = some (.slice a2 l2 c2)) 5 rfl (by kernel_rfl) ?_
    have HS1 := hide ((unhide HS0).later ((Below.refl _ _).drew))
    clear HS0
    generalize Y0.drew = Y1 at *
    refine wpR_take7 (i := 0) (oi := _) (v := .agg #[.slice a1 l1 c1, .slice a2 l2 c2]) rfl (by kernel_rfl) (by kernel_rfl) (by kernel_rfl) (by kernel_rfl) (fun _ _ _ h => h) (Or.inl ⟨by rfl, ?_⟩) ⟨trivial, ⟨((unhide HS1).at 0 rfl).ub.c 0 _ rfl, ((unhide HS1).at 0 rfl).ub.c 1 _ rfl⟩⟩ ?_
    · intro W' hW
      go_split_ands
      go_simp
    refine wpR_take7 (i := 1) (oi := _) (v := .int .i64 n) rfl (by kernel_rfl) (by kernel_rfl) (by kernel_rfl) (by kernel_rfl) (fun _ _ _ h => h) (Or.inl ⟨by rfl, ?_⟩) ⟨trivial, ⟨((unhide HS1).at 0 rfl).ub.c 0 _ rfl, ((unhide HS1).at 0 rfl).ub.c 1 _ rfl⟩⟩ ?_
    · intro W' hW
      go_split_ands
      go_simp
    refine wpR_op (i := 2) (o := _) (by kernel_rfl) rfl rfl (fun K hK => ?_)
    go_simp
    refine (unhide HT _).mono ?_
    rintro e Y2 ⟨_, rfl, ⟨a3, l3, c3, a4, l4, c4, rfl, hv1, hv2⟩, hb⟩
    have HS2 := hide ((((unhide HS1).later hb).push hv1).push hv2)
    clear HS1
    clear hv1 hv2 hb
    refine hK _ _ ⟨trivial, ⟨((unhide HS2).at 0 rfl).ub.c 0 _ rfl, ((unhide HS2).at 0 rfl).ub.c 1 _ rfl⟩⟩ ?_
    clear hK K
    refine wpR_op (i := 3) (o := _) (by kernel_rfl) rfl rfl (fun K hK => ?_)
    go_simp
    refine (szcmp_any _ _ _ _ _ _ _ _ _ _ _ _ p q r t k _ ((unhide HS2).bgt 3 rfl) ((unhide HS2).bgt 2 rfl) ((unhide HS2).bgt 1 rfl) ((unhide HS2).bgt 0 rfl) (unhide HK6) (unhide HPL) (unhide HQL) (unhide HRS).1 (unhide HRS).2).mono ?_
    rintro e Y3 ⟨rfl, hb⟩
    have HS3 := hide ((unhide HS2).later hb)
    clear HS2
    clear hb
    refine hK _ _ ⟨trivial, ⟨((unhide HS3).at 0 rfl).ub.c 0 _ rfl, ((unhide HS3).at 0 rfl).ub.c 1 _ rfl⟩⟩ ?_
    clear hK K
    rw [unhide HC]
    refine wpR_late (i := 4) (o := _) (by kernel_rfl) rfl rfl (by kernel_rfl) (fun K hK => ?_)
    go_simp
    refine hK _ _ (⟨((unhide HS3).at 0 rfl).ub.c 0 _ rfl, ((unhide HS3).at 0 rfl).ub.c 1 _ rfl⟩) ?_
    clear hK K
    refine wpR_done (by kernel_rfl) ?_
    have hn1 : IntKind.i64.wrap (n + 1) = n + 1 := by rw [IntKind.wrap_i64]; omega
    rcases unhide HCR with ⟨h1, rfl⟩ | ⟨h1, rfl⟩
    · go_wp2_with fail
      go_ret
      exact ⟨by simp, (unhide HS3).below⟩
    · go_wp2_with fail
      go_ret
      exact ⟨by simp, (unhide HS3).below⟩
/-- What decimal answers at so many digits. -/
def DecAns (room : Value) (n : Int) (fo : Nat → Option Nat) (w : World) : Prop := ∀ (j : Nat) (W : World), 1 ≤ j → j ≤ 17 → Below w.heap.size w W → Calls Tryz.prog 110 #[room, .int .i64 (j : Int), .int .i64 n] W fun e w' => ∃ a l c, e = .returned (.tuple #[.agg #[.slice a l c], .bool (fo j).isSome]) ∧ IsBig w' (.agg #[.slice a l c]) ((fo j).getD 0) ∧ Below W.heap.size W w'
theorem short1_gen (a1 : Option Addr) (l1 c1 : Nat) (a2 : Option Addr) (l2 c2 : Nat) (a3 : Option Addr) (l3 c3 : Nat) (a4 : Option Addr) (l4 c4 : Nat) (ev : Bool) (n : Int) (fo : Nat → Option Nat) (h gr gn : Nat) (v w : World) (hd : DecAns (.agg #[.slice a1 l1 c1, .slice a2 l2 c2, .slice a3 l3 c3, .slice a4 l4 c4, .bool ev]) n fo v) (hv : Below v.heap.size v w) (hh : h < 16) (hr : OwnU w gr 128 #[.slice a1 l1 c1, .slice a2 l2 c2, .slice a3 l3 c3, .slice a4 l4 c4, .bool ev]) (hnb : OwnU w gn 3 #[.int .i64 n]) :
    Calls Tryz.prog 109 #[.int .i64 (h : Int), .pointer (some ⟨gr, 0, none⟩), .pointer (some ⟨gn, 0, none⟩)] w fun e w' => e = .returned (.bool (fo (h + 1)).isSome) ∧ Below w.heap.size w w' := by
  have hdec := hd (h + 1) w (by omega) (by omega) hv
  rw [show ((h + 1 : Nat) : Int) = (h : Int) + 1 by omega] at hdec
  have u0 : w.cell? ⟨gr, 0, none⟩ = some (.slice a1 l1 c1) := hr.ub.c 0 _ rfl
  have u1 : w.cell? ⟨gr, 1, none⟩ = some (.slice a2 l2 c2) := hr.ub.c 1 _ rfl
  have u2 : w.cell? ⟨gr, 2, none⟩ = some (.slice a3 l3 c3) := hr.ub.c 2 _ rfl
  have u3 : w.cell? ⟨gr, 3, none⟩ = some (.slice a4 l4 c4) := hr.ub.c 3 _ rfl
  have u4 : w.cell? ⟨gr, 4, none⟩ = some (.bool ev) := hr.ub.c 4 _ rfl
  have u5 : w.cell? ⟨gn, 0, none⟩ = some (.int .i64 n) := hnb.ub.c 0 _ rfl
  have hw : IntKind.i64.wrap ((h : Int) + 1) = (h : Int) + 1 := by rw [IntKind.wrap_i64]; omega
  have HDEC := hide hdec
  clear hd hv hr hnb hdec
  generalize (fo (h + 1)).isSome = found at *
  generalize (fo (h + 1)).getD 0 = val at *
  go_enter Tryz.func109, Tryz.ntmps109
  go_wp2_with (go_at_call 110; go_must (refine (unhide HDEC).mono ?_; rintro e w1 ⟨a5, l5, c5, rfl, _, hb⟩; have HB := hide hb; clear hb u0 u1 u2 u3 u4 u5))
  go_ret
  exact ⟨rfl, (unhide HB).alloc (unhide HB).size _⟩
theorem search_gen (a1 : Option Addr) (l1 c1 : Nat) (a2 : Option Addr) (l2 c2 : Nat) (a3 : Option Addr) (l3 c3 : Nat) (a4 : Option Addr) (l4 c4 : Nat) (ev : Bool) (n : Int) (fo : Nat → Option Nat) (gr gn : Nat) (v w : World) (hd : DecAns (.agg #[.slice a1 l1 c1, .slice a2 l2 c2, .slice a3 l3 c3, .slice a4 l4 c4, .bool ev]) n fo v) (hv : Below v.heap.size v w) (hr : OwnU w gr 128 #[.slice a1 l1 c1, .slice a2 l2 c2, .slice a3 l3 c3, .slice a4 l4 c4, .bool ev]) (hnb : OwnU w gn 3 #[.int .i64 n]) :
    Calls Tryz.prog 108 #[.int .i64 16, .func (.func 109) #[] #[.pointer (some ⟨gr, 0, none⟩), .pointer (some ⟨gn, 0, none⟩)]] w fun e w' => (∃ s : Nat, s ≤ 16 ∧ Hid (s = 0 ∨ (fo s).isSome = false) ∧ Hid (s = 16 ∨ (fo (s + 1)).isSome = true) ∧ e = .returned (.int .i64 (s : Int))) ∧ Below w.heap.size w w' := by
  have hC : ∀ (h : Nat) W, h < 16 → Below w.heap.size w W → Calls Tryz.prog 109 #[.int .i64 (h : Int), .pointer (some ⟨gr, 0, none⟩), .pointer (some ⟨gn, 0, none⟩)] W fun e w' => e = .returned (.bool (fo (h + 1)).isSome) ∧ Below W.heap.size W w' := fun h W hh hb => short1_gen _ _ _ _ _ _ _ _ _ _ _ _ ev n fo h gr gn v W hd (hv.trans (hb.mono hv.size)) hh (hr.later hb) (hnb.later hb)
  have HC := hide hC
  have HB0 : Hid (Below w.heap.size w w) := Below.refl _ _
  clear hd hv hr hnb hC
  go_enter Tryz.func108, Tryz.ntmps108
  go_wp2_with fail
  go_loopw [5, 6] (fun i j wr => (∃ p q : Nat, i = .int .i64 (p : Int) ∧ j = .int .i64 (q : Int) ∧ p ≤ q ∧ q ≤ 16 ∧ Hid (p = 0 ∨ (fo p).isSome = false) ∧ Hid (q = 16 ∨ (fo (q + 1)).isSome = true)) ∧ Hid (Below w.heap.size w wr)) (fun i j _ => (intOf j - intOf i).toNat)
  case atStart => exact ⟨⟨0, 16, rfl, rfl, by decide, by decide, Or.inl rfl, Or.inl rfl⟩, HB0⟩
  case round =>
    obtain ⟨⟨p, q, rfl, rfl, hpq, hq, HP, HQ⟩, HB⟩ := hrel
    by_cases hlt : p < q
    · obtain ⟨h, hh⟩ : ∃ h, h = (p + q) / 2 := ⟨_, rfl⟩
      have h1 : IntKind.i64.wrap ((p : Int) + (q : Int)) = (p : Int) + (q : Int) := by rw [IntKind.wrap_i64]; omega
      have h2 : IntKind.u64.wrap ((p : Int) + (q : Int)) = (p : Int) + (q : Int) := by rw [IntKind.wrap_u64]; omega
      have h3 : ((p : Int) + (q : Int)).fdiv (2 ^ min (Int.toNat 1) IntKind.u64.bits) = (h : Int) := by rw [show (2 : Int) ^ min (Int.toNat 1) IntKind.u64.bits = 2 by decide, Int.fdiv_eq_ediv_of_nonneg _ (by decide)]; omega
      have h3b : ((p : Int) + (q : Int)) / 2 = (h : Int) := by omega
      have h4 : IntKind.i64.wrap (h : Int) = (h : Int) := by rw [IntKind.wrap_i64]; omega
      have h4u : IntKind.u64.wrap (h : Int) = (h : Int) := by rw [IntKind.wrap_u64]; omega
      have h5 : IntKind.i64.wrap ((h : Int) + 1) = (h : Int) + 1 := by rw [IntKind.wrap_i64]; omega
      have h6 : (p : Int) < (q : Int) := by omega
      have HCH := hide (unhide HC h)
      have hph : p ≤ h := by omega
      have hhq : h < q := by omega
      clear hh
      generalize hfo : (fo (h + 1)).isSome = fb at HCH
      cases fb
      · go_wp2_with (go_at_call 109; go_must (refine (unhide HCH _ (by omega) (unhide HB)).mono ?_; rintro e w1 ⟨rfl, hb⟩; have HB1 : Hid (Below w.heap.size w w1) := (unhide HB).trans (hb.mono (unhide HB).size); clear hb))
        go_roundw
        case rel => exact ⟨⟨h + 1, q, by simp, rfl, by omega, hq, Or.inr hfo, HQ⟩, HB1⟩
        case measure => simp only [intOf]; omega
      · go_wp2_with (go_at_call 109; go_must (refine (unhide HCH _ (by omega) (unhide HB)).mono ?_; rintro e w1 ⟨rfl, hb⟩; have HB1 : Hid (Below w.heap.size w w1) := (unhide HB).trans (hb.mono (unhide HB).size); clear hb))
        go_roundw
        case rel => exact ⟨⟨p, h, rfl, rfl, by omega, by omega, HP, Or.inr hfo⟩, HB1⟩
        case measure => simp only [intOf]; omega
    · have h6 : ¬ (p : Int) < (q : Int) := by omega
      go_wp2_with fail
      go_ret
      have e : p = q := by omega
      subst e
      exact ⟨⟨p, hq, hide (by have := unhide HP; simpa using this), hide (by have := unhide HQ; simpa using this), rfl⟩, unhide HB⟩
end Go.Proofs.YtijifpbpjinmhaaGreatDoor
namespace Go.Proofs
open Go.Shelf
def Tryz.laysPu14_ren : Go.Shelf.Ren := ⟨fun | 14 => 225 | 16 => 230 | 17 => 189 | 19 => 233 | 20 => 234 | 21 => 216 | 22 => 217 | 23 => 218 | 24 => 219 | 25 => 231 | 27 => 105 | 26 => 232 | 28 => 158 | 29 => 196 | 30 => 175 | 31 => 176 | 32 => 177 | 33 => 178 | 35 => 204 | 34 => 209 | 36 => 210 | 37 => 211 | 38 => 212 | 39 => 226 | 40 => 227 | n => n, fun | 9 => 9 | 3 => 3 | 22 => 41 | 24 => 165 | 25 => 233 | 4 => 4 | 34 => 223 | 5 => 5 | 36 => 109 | 37 => 46 | 0 => 0 | 39 => 226 | 21 => 21 | 44 => 237 | 47 => 210 | 50 => 248 | 48 => 246 | 2 => 2 | 52 => 190 | 55 => 193 | 59 => 221 | 60 => 205 | 20 => 20 | 61 => 222 | 65 => 243 | 66 => 244 | 67 => 64 | n => n, fun | 0 => 3 | 1 => 4 | 2 => 1 | 3 => 7 | 4 => 8 | n => n⟩
theorem Tryz.laysPu14 : Go.Proofs.LaysPu.n14 Tryz.prog Tryz.laysPu14_ren := {
  mixed := by kernel_rfl
  f14 := Tryz.func225.trans (congrArg some (by kernel_rfl))
  f16 := Tryz.func230.trans (congrArg some (by kernel_rfl))
  f17 := Tryz.func189.trans (congrArg some (by kernel_rfl))
  f19 := Tryz.func233.trans (congrArg some (by kernel_rfl))
  f20 := Tryz.func234.trans (congrArg some (by kernel_rfl))
  f21 := Tryz.func216.trans (congrArg some (by kernel_rfl))
  f22 := Tryz.func217.trans (congrArg some (by kernel_rfl))
  f23 := Tryz.func218.trans (congrArg some (by kernel_rfl))
  f24 := Tryz.func219.trans (congrArg some (by kernel_rfl))
  f25 := Tryz.func231.trans (congrArg some (by kernel_rfl))
  f26 := Tryz.func232.trans (congrArg some (by kernel_rfl))
  f27 := Tryz.func105.trans (congrArg some (by kernel_rfl))
  f28 := Tryz.func158.trans (congrArg some (by kernel_rfl))
  f29 := Tryz.func196.trans (congrArg some (by kernel_rfl))
  f30 := Tryz.func175.trans (congrArg some (by kernel_rfl))
  f31 := Tryz.func176.trans (congrArg some (by kernel_rfl))
  f32 := Tryz.func177.trans (congrArg some (by kernel_rfl))
  f33 := Tryz.func178.trans (congrArg some (by kernel_rfl))
  f34 := Tryz.func209.trans (congrArg some (by kernel_rfl))
  f35 := Tryz.func204.trans (congrArg some (by kernel_rfl))
  f36 := Tryz.func210.trans (congrArg some (by kernel_rfl))
  f37 := Tryz.func211.trans (congrArg some (by kernel_rfl))
  f38 := Tryz.func212.trans (congrArg some (by kernel_rfl))
  f39 := Tryz.func226.trans (congrArg some (by kernel_rfl))
  f40 := Tryz.func227.trans (congrArg some (by kernel_rfl))
  t0 := Tryz.underlying0
  a0 := Tryz.isAgg0
  z0 := Tryz.sizeOf0
  v0 := Tryz.zeroValue0
  i0 := by kernel_rfl
  t2 := Tryz.underlying2
  a2 := Tryz.isAgg2
  z2 := Tryz.sizeOf2
  v2 := Tryz.zeroValue2
  i2 := by kernel_rfl
  t3 := Tryz.underlying3
  a3 := Tryz.isAgg3
  z3 := Tryz.sizeOf3
  v3 := Tryz.zeroValue3
  i3 := by kernel_rfl
  t4 := Tryz.underlying4
  a4 := Tryz.isAgg4
  z4 := Tryz.sizeOf4
  v4 := Tryz.zeroValue4
  i4 := by kernel_rfl
  t5 := Tryz.underlying5
  a5 := Tryz.isAgg5
  z5 := Tryz.sizeOf5
  v5 := Tryz.zeroValue5
  i5 := by kernel_rfl
  t9 := Tryz.underlying9
  a9 := Tryz.isAgg9
  z9 := Tryz.sizeOf9
  v9 := Tryz.zeroValue9
  i9 := by kernel_rfl
  t20 := Tryz.underlying20
  a20 := Tryz.isAgg20
  z20 := Tryz.sizeOf20
  v20 := Tryz.zeroValue20
  i20 := by kernel_rfl
  t21 := Tryz.underlying21
  a21 := Tryz.isAgg21
  z21 := Tryz.sizeOf21
  v21 := Tryz.zeroValue21
  i21 := by kernel_rfl
  t22 := Tryz.underlying41
  a22 := Tryz.isAgg41
  z22 := Tryz.sizeOf41
  v22 := Tryz.zeroValue41
  i22 := by kernel_rfl
  t24 := Tryz.underlying165
  a24 := Tryz.isAgg165
  z24 := Tryz.sizeOf165
  v24 := Tryz.zeroValue165
  i24 := by kernel_rfl
  t25 := Tryz.underlying233
  a25 := Tryz.isAgg233
  z25 := Tryz.sizeOf233
  v25 := Tryz.zeroValue233
  i25 := by kernel_rfl
  t34 := Tryz.underlying223
  a34 := Tryz.isAgg223
  z34 := Tryz.sizeOf223
  v34 := Tryz.zeroValue223
  i34 := by kernel_rfl
  c34 := by kernel_rfl
  t36 := Tryz.underlying109
  a36 := Tryz.isAgg109
  z36 := Tryz.sizeOf109
  v36 := Tryz.zeroValue109
  i36 := by kernel_rfl
  t37 := Tryz.underlying46
  a37 := Tryz.isAgg46
  z37 := Tryz.sizeOf46
  v37 := Tryz.zeroValue46
  i37 := by kernel_rfl
  t39 := Tryz.underlying226
  a39 := Tryz.isAgg226
  z39 := Tryz.sizeOf226
  v39 := Tryz.zeroValue226
  i39 := by kernel_rfl
  t44 := Tryz.underlying237
  a44 := Tryz.isAgg237
  z44 := Tryz.sizeOf237
  v44 := Tryz.zeroValue237
  i44 := by kernel_rfl
  t47 := Tryz.underlying210
  a47 := Tryz.isAgg210
  z47 := Tryz.sizeOf210
  v47 := Tryz.zeroValue210
  i47 := by kernel_rfl
  t48 := Tryz.underlying246
  a48 := Tryz.isAgg246
  z48 := Tryz.sizeOf246
  v48 := Tryz.zeroValue246
  i48 := by kernel_rfl
  t50 := Tryz.underlying248
  a50 := Tryz.isAgg248
  z50 := Tryz.sizeOf248
  v50 := Tryz.zeroValue248
  i50 := by kernel_rfl
  t52 := Tryz.underlying190
  a52 := Tryz.isAgg190
  z52 := Tryz.sizeOf190
  v52 := Tryz.zeroValue190
  i52 := by kernel_rfl
  t55 := Tryz.underlying193
  a55 := Tryz.isAgg193
  z55 := Tryz.sizeOf193
  v55 := Tryz.zeroValue193
  i55 := by kernel_rfl
  t59 := Tryz.underlying221
  a59 := Tryz.isAgg221
  z59 := Tryz.sizeOf221
  v59 := Tryz.zeroValue221
  i59 := by kernel_rfl
  t60 := Tryz.underlying205
  a60 := Tryz.isAgg205
  z60 := Tryz.sizeOf205
  v60 := Tryz.zeroValue205
  i60 := by kernel_rfl
  t61 := Tryz.underlying222
  a61 := Tryz.isAgg222
  z61 := Tryz.sizeOf222
  t65 := Tryz.underlying243
  a65 := Tryz.isAgg243
  z65 := Tryz.sizeOf243
  v65 := Tryz.zeroValue243
  i65 := by kernel_rfl
  t66 := Tryz.underlying244
  a66 := Tryz.isAgg244
  z66 := Tryz.sizeOf244
  v66 := Tryz.zeroValue244
  i66 := by kernel_rfl
  t67 := Tryz.underlying64
  a67 := Tryz.isAgg64
  z67 := Tryz.sizeOf64
  v67 := Tryz.zeroValue64
  i67 := by kernel_rfl
  g0 := by kernel_rfl
  m0 := by kernel_rfl
  g1 := by kernel_rfl
  m1 := by kernel_rfl
  g2 := by kernel_rfl
  m2 := by kernel_rfl
  g3 := by kernel_rfl
  m3 := by kernel_rfl
  g4 := by kernel_rfl
  m4 := by kernel_rfl }
open Go.RowKit in
theorem Tryz.strconv_ParseUint_10_at64_ok (s : ByteArray) (hmax : s.size ≤ 9223372036854775806) (u : Nat) (h : Lib.parseUintB 64 s.data.toList = .ok u) (w : World) :
    Calls Tryz.prog 225 #[.string s, .int .i64 10, .int .i64 64] w fun e w' => e = .returned (.tuple #[.int .u64 u, .nilIface]) ∧ (w' = w ∨ w' = Lib.bytesWorld w 5 s) := Any.strconv_ParseUint_10_at64_ok Tryz.laysPu14 s hmax u h w
end Go.Proofs
namespace Go.Proofs.YtijifpbpjinmhaaGreatDoor
open Go.RowKit
attribute [local go_sem] run_bits run_from
theorem pu_below {w w2 : World} {s : ByteArray} (h : w2 = w ∨ w2 = Lib.bytesWorld w 5 s) : Below w.heap.size w w2 := by
  rcases h with rfl | rfl
  · exact Below.refl _ _
  · exact Joins.below_bytesWorld _ _ _ _ (Nat.le_refl _)
theorem natInt_ok (s : ByteArray) (u : Nat) (w : World) (hs : s.size ≤ 1000) (hr : Cub.rightB s.data.toList = true) (hp : Lib.parseUintB 64 s.data.toList = .ok u) :
    Calls Tryz.prog 207 #[.string s] w fun e w' => e = .returned (.tuple #[.int .u64 (u : Nat), .int .i64 0]) ∧ Below w.heap.size w w' := by
  have r1 := fun W => right_any s W (by unfold maxLen; omega)
  rw [hr] at r1
  have R1 := hide r1
  have HP := hide (fun W => Tryz.strconv_ParseUint_10_at64_ok s (by omega) u hp W)
  clear r1 hr hp
  go_enter Tryz.func207, Tryz.ntmps207
  go_wp2_with fail
  refine (unhide R1 _).mono ?_
  rintro e w' ⟨rfl, rfl⟩
  go_wp2_with fail
  refine (unhide HP _).mono ?_
  rintro e w2 ⟨rfl, hw⟩
  have HB : Hid (Below _ _ w2) := pu_below hw
  clear hw
  go_wp2
  go_ret2
  exact ⟨rfl, unhide HB⟩
theorem join_lo (w : World) : Calls Tryz.prog 208 #[.int .u64 7205759403792793, .int .i64 (-56)] w fun e w' => e = .returned (.float .f64 4591870180066957721) ∧ w' = w := by
  go_enter Tryz.func208, Tryz.ntmps208
  go_wp2
  go_ret
  exact ⟨by simp, rfl⟩
theorem text_c (v : Value) (w : World) (h : IsBig w v 57646075230342348) (ht : Tab w) : Calls Tryz.prog 39 #[v] w fun e w' => e = .returned (.string ⟨#[53, 55, 54, 52, 54, 48, 55, 53, 50, 51, 48, 51, 52, 50, 51, 52, 56]⟩) ∧ Below w.heap.size w w' := by
  have e := text_any v 57646075230342348 3 w h (by decide) (by decide +kernel) ht
  rwa [show Lib.decDigits 57646075230342348 = [53, 55, 54, 52, 54, 48, 55, 53, 50, 51, 48, 51, 52, 50, 51, 52, 56] by decide +kernel] at e
theorem divModC (x y : Value) (m n d k : Nat) (w : World) (hx : IsBig w x m) (hy : IsBig w y n) (hk : k ≤ 500000) (hm : m < 1000000000 ^ k) (hn : 0 < n) (hd : m / n = d) :
    Calls Tryz.prog 161 #[x, y] w fun e w' => ∃ a1 n1 c1 a2 n2 c2, e = .returned (.tuple #[.agg #[.slice a1 n1 c1], .agg #[.slice a2 n2 c2]]) ∧ IsBig w' (.agg #[.slice a1 n1 c1]) d ∧ Below w.heap.size w w' := by
  refine (divMod_core x y m n k w hx hy (by omega) hm hn (fun h1 h2 => long_any m n k hk hm h1 h2)).mono ?_
  rintro e w' ⟨a1, n1, c1, a2, n2, c2, rfl, h1, _, hb⟩
  rw [hd] at h1
  exact ⟨a1, n1, c1, a2, n2, c2, rfl, h1, hb⟩
theorem floor_tenth (a1 : Option Addr) (l1 c1 : Nat) (a2 : Option Addr) (l2 c2 : Nat) (w : World) (hp : IsBig w (.agg #[.slice a1 l1 c1]) 1) (hq : IsBig w (.agg #[.slice a2 l2 c2]) 10) (htab : Tab w) :
    Calls Tryz.prog 174 #[.agg #[.slice a1 l1 c1, .slice a2 l2 c2]] w fun e w' => e = .returned (.float .f64 4591870180066957721) ∧ Below w.heap.size w w' := by
  have hta : ∀ W, Below w.heap.size w W → Tab W := fun W hb => htab.later hb
  have HTAB := hide hta
  have hP1 : (1 : Nat) < 1000000000 ^ 50 ∧ 10 < 1000000000 ^ 50 ∧ 576460752303423488 < 1000000000 ^ 50 ∧ 1 * 576460752303423488 < 1000000000 ^ 50 ∧ 10 * 1 < 1000000000 ^ 50 := by decide +kernel
  obtain ⟨V, hV⟩ : ∃ V, V = (w.alloc (.cells #[.slice a1 l1 c1, .slice a2 l2 c2] 54)) := ⟨_, rfl⟩
  have HS0 : Hid (St w [(w.heap.size, 54, #[.slice a1 l1 c1, .slice a2 l2 c2])] [(.agg #[.slice a2 l2 c2], 10), (.agg #[.slice a1 l1 c1], 1)] V) := by rw [hV]; have h := ((((St.nil (Below.refl _ w)).push hp).push hq).new #[.slice a1 l1 c1, .slice a2 l2 c2] 54); (try simp only [World.size_alloc] at h); exact h
  have HV := hide hV
  have HP1 := hide hP1
  clear hV hp hq htab hP1 hta
  go_enter Tryz.func174, Tryz.ntmps174
  have HTW := hide (fun W => twoToP 59 576460752303423488 50 (by decide) (by decide +kernel) (by decide) (by decide) (by decide +kernel) (by decide +kernel) W)
  go_upto_region 1 with fail
  rw [← unhide HV]
  clear HV
  have u0 := ((unhide HS0).at 0 rfl).ub.c 0 _ rfl
  have u1 := ((unhide HS0).at 0 rfl).ub.c 1 _ rfl
  go_upto_region 3 with (have hchk := HS0; clear hchk; go_at_call 85; go_must (refine (isZero_any _ 1 _ ((unhide HS0).bgt 1 rfl)).mono ?_; rintro e U1 ⟨rfl, hb⟩; have HS1 := hide ((unhide HS0).later hb); clear HS0; clear hb u0 u1))
  have u0 := ((unhide HS1).at 0 rfl).ub.c 0 _ rfl
  have u1 := ((unhide HS1).at 0 rfl).ub.c 1 _ rfl
  have hmx : max (-59 : Int) (-1074) = -59 := by decide
  have hmn : min (59 : Int) 1074 = 59 := by decide
  have hw59 : IntKind.i64.wrap 59 = 59 := by decide
  go_upto_region 4 with (have hchk := HS1; clear hchk; go_at_call 206; go_must (refine (bits_tenth _ _ _ _ _ _ 1 10 50 _ ((unhide HS1).bgt 1 rfl) ((unhide HS1).bgt 0 rfl) (by decide) (unhide HP1).1 (unhide HP1).2.1 (by decide +kernel) (by decide +kernel)).mono ?_; rintro e U2 ⟨rfl, hb⟩; have HS2 := hide ((unhide HS1).later hb); clear HS1; clear hb u0 u1))
  go_cut [4] from 17 (fun s4 wx => ∃ g4 a5 l5 c5 a6 l6 c6, s4 = .pointer (some ⟨g4, 0, none⟩) ∧ Hid (St w [(g4, 54, #[.slice a5 l5 c5, .slice a6 l6 c6]), (w.heap.size, 54, #[.slice a1 l1 c1, .slice a2 l2 c2])] [(.agg #[.slice a5 l5 c5], 1 * 576460752303423488), (.agg #[.slice a6 l6 c6], 10 * 1)] wx))
  case first =>
    refine region_reads 6 (fun _ => True) (fun W' => W'.cell? ⟨w.heap.size, 0, none⟩ = some (.slice a1 l1 c1) ∧ W'.cell? ⟨w.heap.size, 1, none⟩ = some (.slice a2 l2 c2)) 7 rfl (by kernel_rfl) ?_
    have HS3 := hide ((unhide HS2).later ((Below.refl _ _).drew))
    clear HS2
    generalize U2.drew = X0 at *
    refine wpR_take7 (i := 0) (oi := _) (v := .agg #[.slice a1 l1 c1, .slice a2 l2 c2]) rfl (by kernel_rfl) (by kernel_rfl) (by kernel_rfl) (by kernel_rfl) (fun _ _ _ h => h) (Or.inl ⟨by rfl, ?_⟩) ⟨trivial, ⟨((unhide HS3).at 0 rfl).ub.c 0 _ rfl, ((unhide HS3).at 0 rfl).ub.c 1 _ rfl⟩⟩ ?_
    · intro W' hW
      go_split_ands
      go_simp
    refine wpR_take7 (i := 1) (oi := _) (v := .int .i64 (-59)) rfl (by kernel_rfl) (by kernel_rfl) (by kernel_rfl) (by kernel_rfl) (fun _ _ _ h => h) (Or.inl ⟨by rfl, ?_⟩) ⟨trivial, ⟨((unhide HS3).at 0 rfl).ub.c 0 _ rfl, ((unhide HS3).at 0 rfl).ub.c 1 _ rfl⟩⟩ ?_
    · intro W' hW
      go_split_ands
      go_simp
    refine wpR_take7 (i := 2) (oi := _) (v := .int .i64 59) rfl (by kernel_rfl) (by kernel_rfl) (by kernel_rfl) (by kernel_rfl) (fun _ _ _ h => h) (Or.inl ⟨by rfl, ?_⟩) ⟨trivial, ⟨((unhide HS3).at 0 rfl).ub.c 0 _ rfl, ((unhide HS3).at 0 rfl).ub.c 1 _ rfl⟩⟩ ?_
    · intro W' hW
      go_split_ands
      go_simp
    refine wpR_two (i := 3) (j := 5) (by kernel_rfl) rfl rfl rfl rfl (fun K hK => ?_) (fun K hK => ?_) 
    · go_simp
      refine (unhide HTW _).mono ?_
      rintro e X1 ⟨_, rfl, ⟨a3, l3, c3, a4, l4, c4, rfl, hv1, hv2⟩, hb⟩
      have HS4 := hide ((((unhide HS3).later hb).push hv1).push hv2)
      clear HS3
      clear hv1 hv2 hb
      refine hK _ _ ⟨trivial, ⟨((unhide HS4).at 0 rfl).ub.c 0 _ rfl, ((unhide HS4).at 0 rfl).ub.c 1 _ rfl⟩⟩ ?_
      clear hK K
      refine wpR_two (i := 4) (j := 5) (by kernel_rfl) rfl rfl rfl rfl (fun K hK => ?_) (fun K hK => ?_) 
      · go_simp
        refine (times_any _ _ _ _ _ _ _ _ _ _ _ _ 1 10 576460752303423488 1 50 _ ((unhide HS4).bgt 3 rfl) ((unhide HS4).bgt 2 rfl) ((unhide HS4).bgt 1 rfl) ((unhide HS4).bgt 0 rfl) (by decide) (unhide HP1).1 (unhide HP1).2.1 (unhide HP1).2.2.1 (unhide HP1).1).mono ?_
        rintro e X2 ⟨_, rfl, ⟨a5, l5, c5, a6, l6, c6, rfl, hv1, hv2⟩, hb⟩
        have HS5 := hide ((((unhide HS4).later hb).push hv2).push hv1)
        clear HS4
        clear hv1 hv2 hb
        refine hK _ _ ⟨trivial, ⟨((unhide HS5).at 0 rfl).ub.c 0 _ rfl, ((unhide HS5).at 0 rfl).ub.c 1 _ rfl⟩⟩ ?_
        clear hK K
        refine wpR_op (i := 5) (o := _) (by kernel_rfl) rfl rfl (fun K hK => ?_)
        go_simp
        have HS6 := hide ((unhide HS5).new #[.slice none 0 0, .slice none 0 0] 54)
        clear HS5
        generalize X2.alloc (.cells #[.slice none 0 0, .slice none 0 0] 54) = X3 at *
        generalize X2.heap.size = g4 at *
        refine hK _ _ ⟨trivial, ⟨((unhide HS6).at 1 rfl).ub.c 0 _ rfl, ((unhide HS6).at 1 rfl).ub.c 1 _ rfl⟩⟩ ?_
        clear hK K
        refine wpR_late (i := 6) (o := _) (by kernel_rfl) rfl rfl (by kernel_rfl) (fun K hK => ?_)
        refine wp_store_row 54 (.tmp 4) (.tmp 21) rfl g4 #[.slice a5 l5 c5, .slice a6 l6 c6] rfl rfl 54 _ ((unhide HS6).at 0 rfl) (by rw [info59]; rfl) rfl (by kernel_rfl) ?_
        have HS7 := hide (((unhide HS6)).set (nz2 _ _ _ _ _ _) #[.slice a5 l5 c5, .slice a6 l6 c6])
        clear HS6
        generalize X3.setRow g4 #[.slice a5 l5 c5, .slice a6 l6 c6] = X4 at *
        refine hK _ _ (⟨((unhide HS7).at 1 rfl).ub.c 0 _ rfl, ((unhide HS7).at 1 rfl).ub.c 1 _ rfl⟩) ?_
        clear hK K
        refine wpR_done (by kernel_rfl) ?_
        go_wp2_with fail
        go_meet
        exact ⟨g4, a5, l5, c5, a6, l6, c6, rfl, hide ((unhide HS7).first 2)⟩
      · go_simp
        have HS5 := hide ((unhide HS4).new #[.slice none 0 0, .slice none 0 0] 54)
        clear HS4
        generalize X1.alloc (.cells #[.slice none 0 0, .slice none 0 0] 54) = X5 at *
        generalize X1.heap.size = g4 at *
        refine hK _ _ ⟨trivial, ⟨((unhide HS5).at 1 rfl).ub.c 0 _ rfl, ((unhide HS5).at 1 rfl).ub.c 1 _ rfl⟩⟩ ?_
        clear hK K
        refine wpR_op (i := 4) (o := _) (by kernel_rfl) rfl rfl (fun K hK => ?_)
        go_simp
        refine (times_any _ _ _ _ _ _ _ _ _ _ _ _ 1 10 576460752303423488 1 50 _ ((unhide HS5).bgt 3 rfl) ((unhide HS5).bgt 2 rfl) ((unhide HS5).bgt 1 rfl) ((unhide HS5).bgt 0 rfl) (by decide) (unhide HP1).1 (unhide HP1).2.1 (unhide HP1).2.2.1 (unhide HP1).1).mono ?_
        rintro e X6 ⟨_, rfl, ⟨a5, l5, c5, a6, l6, c6, rfl, hv1, hv2⟩, hb⟩
        have HS6 := hide ((((unhide HS5).later hb).push hv2).push hv1)
        clear HS5
        clear hv1 hv2 hb
        refine hK _ _ ⟨trivial, ⟨((unhide HS6).at 1 rfl).ub.c 0 _ rfl, ((unhide HS6).at 1 rfl).ub.c 1 _ rfl⟩⟩ ?_
        clear hK K
        refine wpR_late (i := 6) (o := _) (by kernel_rfl) rfl rfl (by kernel_rfl) (fun K hK => ?_)
        refine wp_store_row 54 (.tmp 4) (.tmp 21) rfl g4 #[.slice a5 l5 c5, .slice a6 l6 c6] rfl rfl 54 _ ((unhide HS6).at 0 rfl) (by rw [info59]; rfl) rfl (by kernel_rfl) ?_
        have HS7 := hide (((unhide HS6)).set (nz2 _ _ _ _ _ _) #[.slice a5 l5 c5, .slice a6 l6 c6])
        clear HS6
        generalize X6.setRow g4 #[.slice a5 l5 c5, .slice a6 l6 c6] = X7 at *
        refine hK _ _ (⟨((unhide HS7).at 1 rfl).ub.c 0 _ rfl, ((unhide HS7).at 1 rfl).ub.c 1 _ rfl⟩) ?_
        clear hK K
        refine wpR_done (by kernel_rfl) ?_
        go_wp2_with fail
        go_meet
        exact ⟨g4, a5, l5, c5, a6, l6, c6, rfl, hide ((unhide HS7).first 2)⟩
    · go_simp
      have HS4 := hide ((unhide HS3).new #[.slice none 0 0, .slice none 0 0] 54)
      clear HS3
      generalize X0.alloc (.cells #[.slice none 0 0, .slice none 0 0] 54) = X8 at *
      generalize X0.heap.size = g4 at *
      refine hK _ _ ⟨trivial, ⟨((unhide HS4).at 1 rfl).ub.c 0 _ rfl, ((unhide HS4).at 1 rfl).ub.c 1 _ rfl⟩⟩ ?_
      clear hK K
      refine wpR_op (i := 3) (o := _) (by kernel_rfl) rfl rfl (fun K hK => ?_)
      go_simp
      refine (unhide HTW _).mono ?_
      rintro e X9 ⟨_, rfl, ⟨a3, l3, c3, a4, l4, c4, rfl, hv1, hv2⟩, hb⟩
      have HS5 := hide ((((unhide HS4).later hb).push hv1).push hv2)
      clear HS4
      clear hv1 hv2 hb
      refine hK _ _ ⟨trivial, ⟨((unhide HS5).at 1 rfl).ub.c 0 _ rfl, ((unhide HS5).at 1 rfl).ub.c 1 _ rfl⟩⟩ ?_
      clear hK K
      refine wpR_op (i := 4) (o := _) (by kernel_rfl) rfl rfl (fun K hK => ?_)
      go_simp
      refine (times_any _ _ _ _ _ _ _ _ _ _ _ _ 1 10 576460752303423488 1 50 _ ((unhide HS5).bgt 3 rfl) ((unhide HS5).bgt 2 rfl) ((unhide HS5).bgt 1 rfl) ((unhide HS5).bgt 0 rfl) (by decide) (unhide HP1).1 (unhide HP1).2.1 (unhide HP1).2.2.1 (unhide HP1).1).mono ?_
      rintro e X10 ⟨_, rfl, ⟨a5, l5, c5, a6, l6, c6, rfl, hv1, hv2⟩, hb⟩
      have HS6 := hide ((((unhide HS5).later hb).push hv2).push hv1)
      clear HS5
      clear hv1 hv2 hb
      refine hK _ _ ⟨trivial, ⟨((unhide HS6).at 1 rfl).ub.c 0 _ rfl, ((unhide HS6).at 1 rfl).ub.c 1 _ rfl⟩⟩ ?_
      clear hK K
      refine wpR_late (i := 6) (o := _) (by kernel_rfl) rfl rfl (by kernel_rfl) (fun K hK => ?_)
      refine wp_store_row 54 (.tmp 4) (.tmp 21) rfl g4 #[.slice a5 l5 c5, .slice a6 l6 c6] rfl rfl 54 _ ((unhide HS6).at 0 rfl) (by rw [info59]; rfl) rfl (by kernel_rfl) ?_
      have HS7 := hide (((unhide HS6)).set (nz2 _ _ _ _ _ _) #[.slice a5 l5 c5, .slice a6 l6 c6])
      clear HS6
      generalize X10.setRow g4 #[.slice a5 l5 c5, .slice a6 l6 c6] = X11 at *
      refine hK _ _ (⟨((unhide HS7).at 1 rfl).ub.c 0 _ rfl, ((unhide HS7).at 1 rfl).ub.c 1 _ rfl⟩) ?_
      clear hK K
      refine wpR_done (by kernel_rfl) ?_
      go_wp2_with fail
      go_meet
      exact ⟨g4, a5, l5, c5, a6, l6, c6, rfl, hide ((unhide HS7).first 2)⟩
  case rest =>
    obtain ⟨g4, a5, l5, c5, a6, l6, c6, rfl, HS0⟩ := hcut
    generalize wc = Y0 at *
    have HQ : Hid (1 * 576460752303423488 / (10 * 1) = 57646075230342348) := (by decide +kernel : 1 * 576460752303423488 / (10 * 1) = 57646075230342348)
    have u0 := ((unhide HS0).at 0 rfl).ub.c 0 _ rfl
    have u1 := ((unhide HS0).at 0 rfl).ub.c 1 _ rfl
    go_upto_region 6 with (have hchk := HS0; clear hchk; go_at_call 161; go_must (refine (divModC _ _ (1 * 576460752303423488) (10 * 1) 57646075230342348 50 _ ((unhide HS0).bgt 0 rfl) ((unhide HS0).bgt 1 rfl) (by decide) (unhide HP1).2.2.2.1 (by decide) (unhide HQ)).mono ?_; rintro e Y1 ⟨a7, l7, c7, a8, l8, c8, rfl, hv1, hb⟩; have HS1 := hide (((unhide HS0).later hb).push hv1); clear HS0; clear hv1 hb u0 u1))
    have HS2 : Hid (St w [(Y1.heap.size + 1, 51, #[.slice a8 l8 c8]), (Y1.heap.size, 51, #[.slice a7 l7 c7]), (g4, 54, #[.slice a5 l5 c5, .slice a6 l6 c6]), (w.heap.size, 54, #[.slice a1 l1 c1, .slice a2 l2 c2])] [(.agg #[.slice a7 l7 c7], 57646075230342348), (.agg #[.slice a5 l5 c5], 1 * 576460752303423488), (.agg #[.slice a6 l6 c6], 10 * 1)] ((Y1.alloc (.cells #[.slice a7 l7 c7] 51)).alloc (.cells #[.slice a8 l8 c8] 51))) := by have h := ((unhide HS1).new #[.slice a7 l7 c7] 51).new #[.slice a8 l8 c8] 51; simp only [World.size_alloc] at h; exact h
    clear HS1
    generalize (Y1.alloc (.cells #[.slice a7 l7 c7] 51)).alloc (.cells #[.slice a8 l8 c8] 51) = Y2 at *
    generalize Y1.heap.size = g5 at *
    have u0 := ((unhide HS2).at 1 rfl).ub.c 0 _ rfl
    go_wp2_with (first
      | (have hchk := HS3; clear hchk; go_at_call 207; go_must (refine (natInt_ok ⟨#[53, 55, 54, 52, 54, 48, 55, 53, 50, 51, 48, 51, 52, 50, 51, 52, 56]⟩ 57646075230342348 _ (by decide) (by decide +kernel) (by decide +kernel)).mono ?_; rintro e Y4 ⟨rfl, hb⟩; have HS4 := hide ((unhide HS3).later hb); clear HS3; clear hb))
      | (have hchk := HS2; clear hchk; go_at_call 39; go_must (refine (text_c _ _ ((unhide HS2).bgt 0 rfl) (unhide HTAB _ (unhide HS2).below)).mono ?_; rintro e Y3 ⟨rfl, hb⟩; have HS3 := hide ((unhide HS2).later hb); clear HS2; clear hb u0)))
    go_loopw [7, 3] (fun m e wr => ((m = .int .u64 57646075230342348 ∧ e = .int .i64 (-59)) ∨ (m = .int .u64 28823037615171174 ∧ e = .int .i64 (-58)) ∨ (m = .int .u64 14411518807585587 ∧ e = .int .i64 (-57)) ∨ (m = .int .u64 7205759403792793 ∧ e = .int .i64 (-56))) ∧ Hid (Below w.heap.size w wr)) (fun m _ _ => (intOf m).toNat)
    case atStart => exact ⟨Or.inl ⟨rfl, rfl⟩, (unhide HS4).below⟩
    case round =>
      obtain ⟨h, HBW⟩ := hrel
      rcases h with ⟨rfl, rfl⟩ | ⟨rfl, rfl⟩ | ⟨rfl, rfl⟩ | ⟨rfl, rfl⟩
      · go_wp2_with fail
        go_roundw
        case rel => exact ⟨Or.inr (Or.inl ⟨rfl, rfl⟩), HBW⟩
        case measure => decide
      · go_wp2_with fail
        go_roundw
        case rel => exact ⟨Or.inr (Or.inr (Or.inl ⟨rfl, rfl⟩)), HBW⟩
        case measure => decide
      · go_wp2_with fail
        go_roundw
        case rel => exact ⟨Or.inr (Or.inr (Or.inr (⟨rfl, rfl⟩))), HBW⟩
        case measure => decide
      · go_wp2_with (go_at_call 208; go_must (refine (join_lo _).mono ?_; rintro e ww ⟨rfl, rfl⟩))
        go_ret
        exact ⟨rfl, unhide HBW⟩
end Go.Proofs.YtijifpbpjinmhaaGreatDoor

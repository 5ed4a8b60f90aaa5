/- nat.guess: never too few. -/
import Derived.Test.YtedohdcjichanaaGreatDoorAway
import Derived.Test.YtedohdcjichanaaGreatDoorOps
import Derived.Test.YtedohdcjichanaaGreatDoorCmp
import Derived.Deep.Cut
import Derived.Deep.QuietTactic
import Derived.BigQuiet
namespace Go.Proofs.YtedohdcjichanaaGreatDoor
open Go.RowKit
theorem lenB (v : Value) (n k l : Nat) (w : World) (h : IsBig w v n) (hk : k ≤ 1000000) (hn : n < 1000000000 ^ k) (hl : Lib.nDigits n = l) :
    Calls Tryz.prog 79 #[v] w fun e w' => e = .returned (.int .i64 (l : Nat)) ∧ Below w.heap.size w w' := by rw [← hl]; exact len_any v n k w h hk hn
set_option maxRecDepth 100000 in
set_option maxHeartbeats 4000000 in
theorem bits_tenth (a1 : Option Addr) (l1 c1 : Nat) (a2 : Option Addr) (l2 c2 : Nat) (p q k : Nat) (w : World) (hp : IsBig w (.agg #[.slice a1 l1 c1]) p) (hq : IsBig w (.agg #[.slice a2 l2 c2]) q) (hk : k ≤ 500000) (hpl : p < 1000000000 ^ k) (hql : q < 1000000000 ^ k) (hl1 : Lib.nDigits p = 1) (hl2 : Lib.nDigits q = 2) :
    Calls Tryz.prog 113 #[.agg #[.slice a1 l1 c1, .slice a2 l2 c2]] w fun r w' => r = .returned (.int .i64 (-6)) ∧ Below w.heap.size w w' := by
  obtain ⟨V, hV⟩ : ∃ V, V = (w.alloc (.cells #[.slice a1 l1 c1, .slice a2 l2 c2] 59)) := ⟨_, rfl⟩
  have HS0 : Hid (St w [(w.heap.size, 59, #[.slice a1 l1 c1, .slice a2 l2 c2])] [(.agg #[.slice a2 l2 c2], q), (.agg #[.slice a1 l1 c1], p)] V) := by rw [hV]; have h := ((((St.nil (Below.refl _ w)).push hp).push hq).new #[.slice a1 l1 c1, .slice a2 l2 c2] 59); (try simp only [World.size_alloc] at h); exact h
  have HV := hide hV
  have HK := hide hk
  have HPL := hide hpl
  have HQL := hide hql
  have HL1 := hide hl1
  have HL2 := hide hl2
  clear hV hp hq hk hpl hql hl1 hl2
  go_enter Tryz.func113, Tryz.ntmps113
  have hk6 : k ≤ 1000000 := by have := unhide HK; omega
  have HK6 := hide hk6
  clear hk6
  go_upto_region 1 with fail
  rw [← unhide HV]
  clear HV
  refine region_reads 8 (fun _ => True) (fun W' => W'.cell? ⟨w.heap.size, 0, none⟩ = some (.slice a1 l1 c1) ∧ W'.cell? ⟨w.heap.size, 1, none⟩ = some (.slice a2 l2 c2)) 9 rfl (by kernel_rfl) ?_
  have HS1 := hide ((unhide HS0).later ((Below.refl _ _).drew))
  clear HS0
  generalize V.drew = U0 at *
  refine wpR_take7 (i := 0) (oi := _) (v := .pointer (some ⟨w.heap.size, 0, none⟩)) rfl (by kernel_rfl) (by kernel_rfl) (by kernel_rfl) (by kernel_rfl) (fun _ _ _ h => h) (Or.inl ⟨by rfl, ?_⟩) ⟨trivial, ⟨((unhide HS1).at 0 rfl).ub.c 0 _ rfl, ((unhide HS1).at 0 rfl).ub.c 1 _ rfl⟩⟩ ?_
  · intro W' hW
    go_split_ands
    go_simp
  refine wpR_take7 (i := 1) (oi := _) (v := .agg #[.slice a1 l1 c1]) rfl (by kernel_rfl) (by kernel_rfl) (by kernel_rfl) (by kernel_rfl) (fun _ _ _ h => h) (Or.inl ⟨by rfl, ?_⟩) ⟨trivial, ⟨((unhide HS1).at 0 rfl).ub.c 0 _ rfl, ((unhide HS1).at 0 rfl).ub.c 1 _ rfl⟩⟩ ?_
  · intro W' hW
    go_split_ands
    go_simp
  refine wpR_take7 (i := 3) (oi := _) (v := .pointer (some ⟨w.heap.size, 1, none⟩)) rfl (by kernel_rfl) (by kernel_rfl) (by kernel_rfl) (by kernel_rfl) (fun _ _ _ h => h) (Or.inl ⟨by rfl, ?_⟩) ⟨trivial, ⟨((unhide HS1).at 0 rfl).ub.c 0 _ rfl, ((unhide HS1).at 0 rfl).ub.c 1 _ rfl⟩⟩ ?_
  · intro W' hW
    go_split_ands
    go_simp
  refine wpR_take7 (i := 4) (oi := _) (v := .agg #[.slice a2 l2 c2]) rfl (by kernel_rfl) (by kernel_rfl) (by kernel_rfl) (by kernel_rfl) (fun _ _ _ h => h) (Or.inl ⟨by rfl, ?_⟩) ⟨trivial, ⟨((unhide HS1).at 0 rfl).ub.c 0 _ rfl, ((unhide HS1).at 0 rfl).ub.c 1 _ rfl⟩⟩ ?_
  · intro W' hW
    go_split_ands
    go_simp
  refine wpR_op (i := 2) (o := _) (by kernel_rfl) rfl rfl (fun K hK => ?_)
  go_simp
  refine (lenB _ p k 1 _ ((unhide HS1).bgt 1 rfl) (unhide HK6) (unhide HPL) (unhide HL1)).mono ?_
  rintro e U1 ⟨rfl, hb⟩
  have HS2 := hide ((unhide HS1).later hb)
  clear HS1
  clear hb
  refine hK _ _ ⟨trivial, ⟨((unhide HS2).at 0 rfl).ub.c 0 _ rfl, ((unhide HS2).at 0 rfl).ub.c 1 _ rfl⟩⟩ ?_
  clear hK K
  refine wpR_op (i := 5) (o := _) (by kernel_rfl) rfl rfl (fun K hK => ?_)
  go_simp
  refine (lenB _ q k 2 _ ((unhide HS2).bgt 0 rfl) (unhide HK6) (unhide HQL) (unhide HL2)).mono ?_
  rintro e U2 ⟨rfl, hb⟩
  have HS3 := hide ((unhide HS2).later hb)
  clear HS2
  clear hb
  refine hK _ _ ⟨trivial, ⟨((unhide HS3).at 0 rfl).ub.c 0 _ rfl, ((unhide HS3).at 0 rfl).ub.c 1 _ rfl⟩⟩ ?_
  clear hK K
  refine wpR_op (i := 6) (o := _) (by kernel_rfl) rfl rfl (fun K hK => ?_)
  go_simp
  refine hK _ _ ⟨trivial, ⟨((unhide HS3).at 0 rfl).ub.c 0 _ rfl, ((unhide HS3).at 0 rfl).ub.c 1 _ rfl⟩⟩ ?_
  clear hK K
  refine wpR_op (i := 7) (o := _) (by kernel_rfl) rfl rfl (fun K hK => ?_)
  go_simp
  refine hK _ _ ⟨trivial, ⟨((unhide HS3).at 0 rfl).ub.c 0 _ rfl, ((unhide HS3).at 0 rfl).ub.c 1 _ rfl⟩⟩ ?_
  clear hK K
  refine wpR_late (i := 8) (o := _) (by kernel_rfl) rfl rfl (by kernel_rfl) (fun K hK => ?_)
  go_simp
  refine hK _ _ (⟨((unhide HS3).at 0 rfl).ub.c 0 _ rfl, ((unhide HS3).at 0 rfl).ub.c 1 _ rfl⟩) ?_
  clear hK K
  refine wpR_done (by kernel_rfl) ?_
  go_wp2_with fail
  go_ret
  exact ⟨rfl, (unhide HS3).below⟩
set_option maxRecDepth 100000 in
set_option maxHeartbeats 4000000 in
theorem places_up (a1 : Option Addr) (l1 c1 : Nat) (a2 : Option Addr) (l2 c2 : Nat) (p q x y k r t : Nat) (n : Int) (w : World) (hp : IsBig w (.agg #[.slice a1 l1 c1]) p) (hq : IsBig w (.agg #[.slice a2 l2 c2]) q) (hk : k ≤ 500000) (hpl : p < 1000000000 ^ k) (hql : q < 1000000000 ^ k) (hl1 : Lib.nDigits p = x) (hl2 : Lib.nDigits q = y) (hn : (x : Int) - (y : Int) = n) (hnl : -9000 ≤ n ∧ n ≤ 9000) (ht : ∀ W, Calls Tryz.prog 80 #[.int .i64 n] W fun e w' => ∃ v, e = .returned v ∧ IsSz w' v r t ∧ Below W.heap.size W w') (hrs : r < 1000000000 ^ k ∧ t < 1000000000 ^ k) (hc : Cub.cmpN (p * t) (r * q) = 1) :
    Calls Tryz.prog 53 #[.agg #[.slice a1 l1 c1, .slice a2 l2 c2]] w fun e w' => e = .returned (.int .i64 (n + 1)) ∧ Below w.heap.size w w' := by
  have hs1 : IntKind.i64.wrap ((x : Int) - (y : Int)) = (x : Int) - (y : Int) := by rw [IntKind.wrap_i64]; omega
  obtain ⟨V, hV⟩ : ∃ V, V = (w.alloc (.cells #[.slice a1 l1 c1, .slice a2 l2 c2] 59)) := ⟨_, rfl⟩
  have HS0 : Hid (St w [(w.heap.size, 59, #[.slice a1 l1 c1, .slice a2 l2 c2])] [(.agg #[.slice a2 l2 c2], q), (.agg #[.slice a1 l1 c1], p)] V) := by rw [hV]; have h := ((((St.nil (Below.refl _ w)).push hp).push hq).new #[.slice a1 l1 c1, .slice a2 l2 c2] 59); (try simp only [World.size_alloc] at h); exact h
  have HV := hide hV
  have HK := hide hk
  have HPL := hide hpl
  have HQL := hide hql
  have HL1 := hide hl1
  have HL2 := hide hl2
  have HT := hide ht
  have HC := hide hc
  have HRS := hide hrs
  have HN := hide hn
  clear hV hp hq hk hpl hql hl1 hl2 ht hc hrs hn
  go_enter Tryz.func53, Tryz.ntmps53
  have hk6 : k ≤ 1000000 := by have := unhide HK; omega
  have HK6 := hide hk6
  clear hk6
  go_upto_region 1 with fail
  rw [← unhide HV]
  clear HV
  go_cut [3] from 11 (fun s3 wx => s3 = .int .i64 ((x : Int) - (y : Int)) ∧ Hid (St w [(w.heap.size, 59, #[.slice a1 l1 c1, .slice a2 l2 c2])] [(.agg #[.slice a2 l2 c2], q), (.agg #[.slice a1 l1 c1], p)] wx))
  case first =>
    refine region_reads 7 (fun _ => True) (fun W' => W'.cell? ⟨w.heap.size, 0, none⟩ = some (.slice a1 l1 c1) ∧ W'.cell? ⟨w.heap.size, 1, none⟩ = some (.slice a2 l2 c2)) 8 rfl (by kernel_rfl) ?_
    have HS1 := hide ((unhide HS0).later ((Below.refl _ _).drew))
    clear HS0
    generalize V.drew = U0 at *
    refine wpR_take7 (i := 0) (oi := _) (v := .pointer (some ⟨w.heap.size, 0, none⟩)) rfl (by kernel_rfl) (by kernel_rfl) (by kernel_rfl) (by kernel_rfl) (fun _ _ _ h => h) (Or.inl ⟨by rfl, ?_⟩) ⟨trivial, ⟨((unhide HS1).at 0 rfl).ub.c 0 _ rfl, ((unhide HS1).at 0 rfl).ub.c 1 _ rfl⟩⟩ ?_
    · intro W' hW
      go_split_ands
      go_simp
    refine wpR_take7 (i := 1) (oi := _) (v := .agg #[.slice a1 l1 c1]) rfl (by kernel_rfl) (by kernel_rfl) (by kernel_rfl) (by kernel_rfl) (fun _ _ _ h => h) (Or.inl ⟨by rfl, ?_⟩) ⟨trivial, ⟨((unhide HS1).at 0 rfl).ub.c 0 _ rfl, ((unhide HS1).at 0 rfl).ub.c 1 _ rfl⟩⟩ ?_
    · intro W' hW
      go_split_ands
      go_simp
    refine wpR_take7 (i := 3) (oi := _) (v := .pointer (some ⟨w.heap.size, 1, none⟩)) rfl (by kernel_rfl) (by kernel_rfl) (by kernel_rfl) (by kernel_rfl) (fun _ _ _ h => h) (Or.inl ⟨by rfl, ?_⟩) ⟨trivial, ⟨((unhide HS1).at 0 rfl).ub.c 0 _ rfl, ((unhide HS1).at 0 rfl).ub.c 1 _ rfl⟩⟩ ?_
    · intro W' hW
      go_split_ands
      go_simp
    refine wpR_take7 (i := 4) (oi := _) (v := .agg #[.slice a2 l2 c2]) rfl (by kernel_rfl) (by kernel_rfl) (by kernel_rfl) (by kernel_rfl) (fun _ _ _ h => h) (Or.inl ⟨by rfl, ?_⟩) ⟨trivial, ⟨((unhide HS1).at 0 rfl).ub.c 0 _ rfl, ((unhide HS1).at 0 rfl).ub.c 1 _ rfl⟩⟩ ?_
    · intro W' hW
      go_split_ands
      go_simp
    refine wpR_op (i := 2) (o := _) (by kernel_rfl) rfl rfl (fun K hK => ?_)
    go_simp
    refine (lenB _ p k x _ ((unhide HS1).bgt 1 rfl) (unhide HK6) (unhide HPL) (unhide HL1)).mono ?_
    rintro e U1 ⟨rfl, hb⟩
    have HS2 := hide ((unhide HS1).later hb)
    clear HS1
    clear hb
    refine hK _ _ ⟨trivial, ⟨((unhide HS2).at 0 rfl).ub.c 0 _ rfl, ((unhide HS2).at 0 rfl).ub.c 1 _ rfl⟩⟩ ?_
    clear hK K
    refine wpR_op (i := 5) (o := _) (by kernel_rfl) rfl rfl (fun K hK => ?_)
    go_simp
    refine (lenB _ q k y _ ((unhide HS2).bgt 0 rfl) (unhide HK6) (unhide HQL) (unhide HL2)).mono ?_
    rintro e U2 ⟨rfl, hb⟩
    have HS3 := hide ((unhide HS2).later hb)
    clear HS2
    clear hb
    refine hK _ _ ⟨trivial, ⟨((unhide HS3).at 0 rfl).ub.c 0 _ rfl, ((unhide HS3).at 0 rfl).ub.c 1 _ rfl⟩⟩ ?_
    clear hK K
    refine wpR_op (i := 6) (o := _) (by kernel_rfl) rfl rfl (fun K hK => ?_)
    go_simp
    refine hK _ _ ⟨trivial, ⟨((unhide HS3).at 0 rfl).ub.c 0 _ rfl, ((unhide HS3).at 0 rfl).ub.c 1 _ rfl⟩⟩ ?_
    clear hK K
    refine wpR_late (i := 7) (o := _) (by kernel_rfl) rfl rfl (by kernel_rfl) (fun K hK => ?_)
    go_simp
    refine hK _ _ (⟨((unhide HS3).at 0 rfl).ub.c 0 _ rfl, ((unhide HS3).at 0 rfl).ub.c 1 _ rfl⟩) ?_
    clear hK K
    refine wpR_done (by kernel_rfl) ?_
    go_wp2_with fail
    go_meet
    exact ⟨rfl, HS3⟩
  case rest =>
    obtain ⟨rfl, HS0⟩ := hcut
    generalize wc = Y0 at *
    rw [unhide HN]
    clear hs1
    go_upto_region 2 with fail
    refine region_reads 4 (fun _ => True) (fun W' => W'.cell? ⟨w.heap.size, 0, none⟩ = some (.slice a1 l1 c1) ∧ W'.cell? ⟨w.heap.size, 1, none⟩ = some (.slice a2 l2 c2)) 5 rfl (by kernel_rfl) ?_
    have HS1 := hide ((unhide HS0).later ((Below.refl _ _).drew))
    clear HS0
    generalize Y0.drew = Y1 at *
    refine wpR_take7 (i := 0) (oi := _) (v := .agg #[.slice a1 l1 c1, .slice a2 l2 c2]) rfl (by kernel_rfl) (by kernel_rfl) (by kernel_rfl) (by kernel_rfl) (fun _ _ _ h => h) (Or.inl ⟨by rfl, ?_⟩) ⟨trivial, ⟨((unhide HS1).at 0 rfl).ub.c 0 _ rfl, ((unhide HS1).at 0 rfl).ub.c 1 _ rfl⟩⟩ ?_
    · intro W' hW
      go_split_ands
      go_simp
    refine wpR_take7 (i := 1) (oi := _) (v := .int .i64 n) rfl (by kernel_rfl) (by kernel_rfl) (by kernel_rfl) (by kernel_rfl) (fun _ _ _ h => h) (Or.inl ⟨by rfl, ?_⟩) ⟨trivial, ⟨((unhide HS1).at 0 rfl).ub.c 0 _ rfl, ((unhide HS1).at 0 rfl).ub.c 1 _ rfl⟩⟩ ?_
    · intro W' hW
      go_split_ands
      go_simp
    refine wpR_op (i := 2) (o := _) (by kernel_rfl) rfl rfl (fun K hK => ?_)
    go_simp
    refine (unhide HT _).mono ?_
    rintro e Y2 ⟨_, rfl, ⟨a3, l3, c3, a4, l4, c4, rfl, hv1, hv2⟩, hb⟩
    have HS2 := hide ((((unhide HS1).later hb).push hv1).push hv2)
    clear HS1
    clear hv1 hv2 hb
    refine hK _ _ ⟨trivial, ⟨((unhide HS2).at 0 rfl).ub.c 0 _ rfl, ((unhide HS2).at 0 rfl).ub.c 1 _ rfl⟩⟩ ?_
    clear hK K
    refine wpR_op (i := 3) (o := _) (by kernel_rfl) rfl rfl (fun K hK => ?_)
    go_simp
    refine (szcmp_any _ _ _ _ _ _ _ _ _ _ _ _ p q r t k _ ((unhide HS2).bgt 3 rfl) ((unhide HS2).bgt 2 rfl) ((unhide HS2).bgt 1 rfl) ((unhide HS2).bgt 0 rfl) (unhide HK6) (unhide HPL) (unhide HQL) (unhide HRS).1 (unhide HRS).2).mono ?_
    rintro e Y3 ⟨rfl, hb⟩
    have HS3 := hide ((unhide HS2).later hb)
    clear HS2
    clear hb
    refine hK _ _ ⟨trivial, ⟨((unhide HS3).at 0 rfl).ub.c 0 _ rfl, ((unhide HS3).at 0 rfl).ub.c 1 _ rfl⟩⟩ ?_
    clear hK K
    rw [unhide HC]
    refine wpR_late (i := 4) (o := _) (by kernel_rfl) rfl rfl (by kernel_rfl) (fun K hK => ?_)
    go_simp
    refine hK _ _ (⟨((unhide HS3).at 0 rfl).ub.c 0 _ rfl, ((unhide HS3).at 0 rfl).ub.c 1 _ rfl⟩) ?_
    clear hK K
    refine wpR_done (by kernel_rfl) ?_
    have hn1 : IntKind.i64.wrap (n + 1) = n + 1 := by rw [IntKind.wrap_i64]; omega
    go_wp2_with fail
    go_ret
    exact ⟨by simp, (unhide HS3).below⟩

set_option maxRecDepth 100000 in
set_option maxHeartbeats 4000000 in
theorem parts_any (a1 : Option Addr) (l1 c1 : Nat) (a2 : Option Addr) (l2 c2 : Nat) (p n k g : Nat) (w : World) (ho : OwnU w g 59 #[.slice a1 l1 c1, .slice a2 l2 c2]) (hp : IsBig w (.agg #[.slice a1 l1 c1]) p) (hn : n < 18446744073709551616) (hk : k ≤ 1000000) (hpl : p < 1000000000 ^ k) (hnl : n < 1000000000 ^ k) :
    Calls Tryz.prog 78 #[.int .u64 (n : Int), .pointer (some ⟨g, 0, none⟩)] w fun e w' => ∃ a l c, e = .returned (.agg #[.slice a l c]) ∧ IsBig w' (.agg #[.slice a l c]) (p * n) ∧ Below w.heap.size w w' := by
  have hgw : g < w.heap.size := ho.lt
  obtain ⟨V, hV⟩ : ∃ V, V = w.alloc (.cells #[.slice none 0 0] 56) := ⟨_, rfl⟩
  have HS0 : Hid (St w [(w.heap.size, 56, #[.slice none 0 0])] [(.agg #[.slice a1 l1 c1], p)] V) := by rw [hV]; exact ((St.nil (Below.refl _ w)).push hp).new _ _
  have HO : Hid (OwnU V g 59 #[.slice a1 l1 c1, .slice a2 l2 c2]) := by rw [hV]; exact ho.alloc _
  have HGW := hide hgw
  have HV := hide hV
  have HK := hide hk
  have HPL := hide hpl
  have HNL := hide hnl
  clear hV ho hp hk hpl hnl
  go_enter Tryz.func78, Tryz.ntmps78
  go_upto_region 1 with fail
  rw [← unhide HV]
  clear HV
  refine region_reads 5 (fun _ => True) (fun W' => W'.cell? ⟨g, 0, none⟩ = some (.slice a1 l1 c1)) 6 rfl (by kernel_rfl) ?_
  have HO1 : Hid (OwnU V.drew g 59 #[.slice a1 l1 c1, .slice a2 l2 c2]) := unhide HO
  clear HO
  have HS1 := hide ((unhide HS0).later ((Below.refl _ _).drew))
  clear HS0
  generalize V.drew = U0 at *
  refine wpR_take7 (i := 0) (oi := _) (v := .pointer (some ⟨g, 0, none⟩)) rfl (by kernel_rfl) (by kernel_rfl) (by kernel_rfl) (by kernel_rfl) (fun _ _ _ h => h) (Or.inl ⟨by rfl, ?_⟩) ⟨trivial, (unhide HO1).ub.c 0 _ rfl⟩ ?_
  · intro W' hW
    go_simp
  refine wpR_take7 (i := 1) (oi := _) (v := .agg #[.slice a1 l1 c1]) rfl (by kernel_rfl) (by kernel_rfl) (by kernel_rfl) (by kernel_rfl) (fun _ _ _ h => h) (Or.inl ⟨by rfl, ?_⟩) ⟨trivial, (unhide HO1).ub.c 0 _ rfl⟩ ?_
  · intro W' hW
    go_simp
  refine wpR_take7 (i := 2) (oi := _) (v := .int .u64 (n : Int)) rfl (by kernel_rfl) (by kernel_rfl) (by kernel_rfl) (by kernel_rfl) (fun _ _ _ h => h) (Or.inl ⟨by rfl, ?_⟩) ⟨trivial, (unhide HO1).ub.c 0 _ rfl⟩ ?_
  · intro W' hW
    go_simp
  refine wpR_op (i := 3) (o := _) (by kernel_rfl) rfl rfl (fun K hK => ?_)
  go_simp
  refine (bigOf_any n _ hn).mono ?_
  rintro e U1 ⟨a3, l3, c3, rfl, hv, hb⟩
  have HO2 := hide ((unhide HO1).later hb)
  have HS2 := hide (((unhide HS1).later hb).push hv)
  clear HS1
  clear hv hb HO1
  refine hK _ _ ⟨trivial, (unhide HO2).ub.c 0 _ rfl⟩ ?_
  clear hK K
  refine wpR_op (i := 4) (o := _) (by kernel_rfl) rfl rfl (fun K hK => ?_)
  go_simp
  refine (mulB _ _ p n (p * n) k _ ((unhide HS2).bgt 1 rfl) ((unhide HS2).bgt 0 rfl) (unhide HK) (unhide HPL) (unhide HNL) rfl).mono ?_
  rintro e U2 ⟨a4, l4, c4, rfl, hv, hb⟩
  have HO3 := hide ((unhide HO2).later hb)
  have HS3 := hide (((unhide HS2).later hb).push hv)
  clear HS2
  clear hv hb HO2
  refine hK _ _ ⟨trivial, (unhide HO3).ub.c 0 _ rfl⟩ ?_
  clear hK K
  have u0 := ((unhide HS3).at 0 rfl).ub.c 0 _ rfl
  have u1 := ((unhide HS3).at 0 rfl).ub.f 0 (.slice none 0 0) rfl
  refine wpR_late (i := 5) (o := _) (by kernel_rfl) rfl rfl (by kernel_rfl) (fun K hK => ?_)
  go_simp
  clear u0 u1
  rw [((unhide HS3).at 0 rfl).set1]
  have HO4 := hide ((unhide HO3).other (show g ≠ w.heap.size by have := unhide HGW; omega) #[.slice a4 l4 c4])
  have HS4 := hide (((unhide HS3)).set (nz1 _ _ _) #[.slice a4 l4 c4])
  clear HS3
  generalize U2.setRow w.heap.size #[.slice a4 l4 c4] = U3 at *
  refine hK _ _ ((unhide HO4).ub.c 0 _ rfl) ?_
  clear hK K
  refine wpR_done (by kernel_rfl) ?_
  have u0 := ((unhide HS4).at 0 rfl).ub.c 0 _ rfl
  go_wp2_with fail
  refine bodyPost_ret (v := .agg #[.slice a4 l4 c4]) (by simp [results, Tryz.results78, go_sem, u0]) rfl ⟨_, _, _, rfl, ((unhide HS4).bgt 0 rfl), (unhide HS4).below⟩
end Go.Proofs.YtedohdcjichanaaGreatDoor

namespace Go.Proofs.YtedohdcjichanaaGreatDoor
open Go.RowKit

/-- What the long division must answer. -/
def LongOK (m n : Nat) : Prop := ∀ (W : World) (x y : Value), IsBig W x m → IsBig W y n →
  Calls Tryz.prog 104 #[x, y] W fun e w' => ∃ a1 n1 c1 a2 n2 c2, e = .returned (.tuple #[.agg #[.slice a1 n1 c1], .agg #[.slice a2 n2 c2]]) ∧ IsBig w' (.agg #[.slice a1 n1 c1]) (m / n) ∧ IsBig w' (.agg #[.slice a2 n2 c2]) (m % n) ∧ Below W.heap.size W w'

/-- Two boxes, and two for results, kept. -/
structure Res4 (w w4 : World) (a b : Value) : Prop where
  c0 : w4.cell? ⟨w.heap.size, 0, none⟩ = some a
  c1 : w4.cell? ⟨w.heap.size + 1, 0, none⟩ = some b
  c2 : w4.cell? ⟨w.heap.size + 1 + 1, 0, none⟩ = some (.slice none 0 0)
  f2 : w4.frozen? ⟨w.heap.size + 1 + 1, 0, none⟩ = false
  c3 : w4.cell? ⟨w.heap.size + 1 + 1 + 1, 0, none⟩ = some (.slice none 0 0)
  f3 : w4.frozen? ⟨w.heap.size + 1 + 1 + 1, 0, none⟩ = false
  below : Below w.heap.size w w4
  size : w.heap.size + 4 ≤ w4.heap.size
theorem res4 {w w4 : World} {a b : Value} (hb : Below (w.heap.size + 4) ((((w.alloc (.cells #[a] 56)).alloc (.cells #[b] 56)).alloc (.cells #[.slice none 0 0] 56)).alloc (.cells #[.slice none 0 0] 56)) w4) : Res4 w w4 a b := by
  refine ⟨?_, ?_, ?_, ?_, ?_, ?_, ?_, ?_⟩
  · rw [hb.cell (p := ⟨w.heap.size, 0, none⟩) (show w.heap.size < w.heap.size + 4 by omega)]; simp [go_sem]
  · rw [hb.cell (p := ⟨w.heap.size + 1, 0, none⟩) (show w.heap.size + 1 < w.heap.size + 4 by omega)]; simp [go_sem]
  · rw [hb.cell (p := ⟨w.heap.size + 1 + 1, 0, none⟩) (show w.heap.size + 1 + 1 < w.heap.size + 4 by omega)]; simp [go_sem]
  · rw [hb.frozen (p := ⟨w.heap.size + 1 + 1, 0, none⟩) (show w.heap.size + 1 + 1 < w.heap.size + 4 by omega)]; simp [go_sem]
  · rw [hb.cell (p := ⟨w.heap.size + 1 + 1 + 1, 0, none⟩) (show w.heap.size + 1 + 1 + 1 < w.heap.size + 4 by omega)]; simp [go_sem]
  · rw [hb.frozen (p := ⟨w.heap.size + 1 + 1 + 1, 0, none⟩) (show w.heap.size + 1 + 1 + 1 < w.heap.size + 4 by omega)]; simp [go_sem]
  · exact (((((Below.refl _ _).alloc (Nat.le_refl _) _).alloc (by simp) _).alloc (by simp; omega) _).alloc (by simp; omega) _).trans (hb.mono (by omega))
  · have := hb.size; simp at this; omega
theorem Res4.on {w w4 w5 : World} {a b : Value} (h : Res4 w w4 a b) (hb : Below (w.heap.size + 4) w4 w5) : Res4 w w5 a b :=
  ⟨(hb.cell (p := ⟨w.heap.size, 0, none⟩) (show w.heap.size < w.heap.size + 4 by omega)).trans h.c0, (hb.cell (p := ⟨w.heap.size + 1, 0, none⟩) (show w.heap.size + 1 < w.heap.size + 4 by omega)).trans h.c1,
    (hb.cell (p := ⟨w.heap.size + 1 + 1, 0, none⟩) (show w.heap.size + 1 + 1 < w.heap.size + 4 by omega)).trans h.c2, (hb.frozen (p := ⟨w.heap.size + 1 + 1, 0, none⟩) (show w.heap.size + 1 + 1 < w.heap.size + 4 by omega)).trans h.f2,
    (hb.cell (p := ⟨w.heap.size + 1 + 1 + 1, 0, none⟩) (show w.heap.size + 1 + 1 + 1 < w.heap.size + 4 by omega)).trans h.c3, (hb.frozen (p := ⟨w.heap.size + 1 + 1 + 1, 0, none⟩) (show w.heap.size + 1 + 1 + 1 < w.heap.size + 4 by omega)).trans h.f3,
    h.below.trans (hb.mono (by omega)), by have := hb.size; have := h.size; omega⟩
theorem Res4.done {w w4 : World} {a b u v : Value} (h : Res4 w w4 a b) (n m : Nat) (hn : IsBig w4 (.agg #[u]) n) (hm : IsBig w4 (.agg #[v]) m) :
    IsBig ((w4.setCell ⟨w.heap.size + 1 + 1, 0, none⟩ u).setCell ⟨w.heap.size + 1 + 1 + 1, 0, none⟩ v) (.agg #[u]) n ∧ IsBig ((w4.setCell ⟨w.heap.size + 1 + 1, 0, none⟩ u).setCell ⟨w.heap.size + 1 + 1 + 1, 0, none⟩ v) (.agg #[v]) m ∧ Below w.heap.size w ((w4.setCell ⟨w.heap.size + 1 + 1, 0, none⟩ u).setCell ⟨w.heap.size + 1 + 1 + 1, 0, none⟩ v) := by
  have hc : (w4.setCell ⟨w.heap.size + 1 + 1, 0, none⟩ u).cell? ⟨w.heap.size + 1 + 1 + 1, 0, none⟩ = some (.slice none 0 0) := by
    rw [World.cell?_setCell_other _ _ _ _ (by simp)]; exact h.c3
  exact ⟨(hn.box _ h.c2 (no_int _ _ _)).box _ hc (no_int _ _ _), (hm.box _ h.c2 (no_int _ _ _)).box _ hc (no_int _ _ _), (h.below.setCell (by simp; omega) _).setCell (by simp; omega) _⟩

theorem one_limb {l : List Nat} {n : Nat} (h : Cub.normal 1000000000 l) (hv : Cub.lval 1000000000 l = n) (h1 : l.length = 1) : ∃ y, l = [y] ∧ y = n ∧ 0 < n ∧ n < 1000000000 := by
  obtain ⟨y, rfl⟩ := List.length_eq_one_iff.1 h1
  have e : y = n := by rw [← hv]; simp [Cub.lval]
  subst e
  refine ⟨y, rfl, rfl, ?_, h.1 y (by simp)⟩
  have := h.2
  simp at this
  omega

set_option maxRecDepth 100000 in
set_option maxHeartbeats 1000000 in
theorem divMod_core (x y : Value) (m n k : Nat) (w : World) (hx : IsBig w x m) (hy : IsBig w y n) (hk : k ≤ 1000000) (hm : m < 1000000000 ^ k) (hn : 0 < n) (hL : 1000000000 ≤ n → n ≤ m → LongOK m n) :
    Calls Tryz.prog 82 #[x, y] w fun e w' => ∃ a1 n1 c1 a2 n2 c2, e = .returned (.tuple #[.agg #[.slice a1 n1 c1], .agg #[.slice a2 n2 c2]]) ∧ IsBig w' (.agg #[.slice a1 n1 c1]) (m / n) ∧ IsBig w' (.agg #[.slice a2 n2 c2]) (m % n) ∧ Below w.heap.size w w' := by
  have HX := hide hx
  have HY := hide hy
  obtain ⟨ap, lp, cp, rfl, hlp, hrp, hnp, hvp⟩ := hx.form
  obtain ⟨aq, lq, cq, rfl, hlq, hrq, hnq, hvq⟩ := hy.form
  have H50 := hide (fun W hx hy => cmp_any (.agg #[.slice ap lp.length cp]) (.agg #[.slice aq lq.length cq]) m n W hx hy)
  have h1 : lp.length ≤ k := Cub.len_le hnp (by rw [hvp]; exact hm)
  have HP : Hid (Cells w aq lq) := hrq.cells.2.2.2
  have HM := hide hm
  by_cases hlt : m < n
  · have e1 : m / n = 0 := Nat.div_eq_of_lt hlt
    have e2 : m % n = m := Nat.mod_eq_of_lt hlt
    rw [e1, e2]
    rw [Cub.cmpN_lt hlt] at H50
    generalize lp.length = np at *
    generalize lq.length = nq at *
    clear hx hy hm hlp hlq hrp hrq hnp hnq hvp hvq e1 e2 hL h1 HP
    go_enter Tryz.func82, Tryz.ntmps82
    go_upto_region 2 with (go_at_call 66; go_must (refine (unhide H50 _ ((unhide HX).later (((((Below.refl _ _).alloc (Nat.le_refl _) _).alloc (by simp) _).alloc (by simp; omega) _).alloc (by simp; omega) _)) ((unhide HY).later (((((Below.refl _ _).alloc (Nat.le_refl _) _).alloc (by simp) _).alloc (by simp; omega) _).alloc (by simp; omega) _))).mono ?_; rintro e w2 ⟨rfl, hb2⟩; have HB2 := hide (res4 (hb2.mono (by simp))); have b0 := (unhide HB2).c0; have b2 := (unhide HB2).c2; have f2 := (unhide HB2).f2; have b3 := (unhide HB2).c3; have f3 := (unhide HB2).f3; clear hb2))
    go_region
    all_goals (
      obtain ⟨r1, r2, r3⟩ := (unhide HB2).done (u := .slice none 0 0) (v := .slice ap np cp) 0 m (IsBig.zero _) ((unhide HX).later (unhide HB2).below)
      go_wp2
      exact bodyPost_ret (v := .tuple #[.agg #[.slice none 0 0], .agg #[.slice ap np cp]]) (by simp [results, Tryz.results82, go_sem, b2, b3]) rfl ⟨_, _, _, _, _, _, rfl, r1.later ((Below.refl _ _).drew), r2.later ((Below.refl _ _).drew), r3.trans ((Below.refl _ _).drew)⟩)
  · have H50' : Hid (∃ c : Int, (c < 0) = False ∧ ∀ W, IsBig W (.agg #[.slice ap lp.length cp]) m → IsBig W (.agg #[.slice aq lq.length cq]) n → Calls Tryz.prog 66 #[.agg #[.slice ap lp.length cp], .agg #[.slice aq lq.length cq]] W fun e w' => e = .returned (.int .i64 c) ∧ Below W.heap.size W w') := by
      refine ⟨Cub.cmpN m n, ?_, unhide H50⟩
      unfold Cub.cmpN
      rw [if_neg hlt]
      split <;> simp
    obtain ⟨c, hc, h50⟩ := unhide H50'
    have H50c := hide h50
    clear h50 H50 H50'
    by_cases hone : lq.length = 1
    · obtain ⟨yv, hl, hyn, hn0, hnB⟩ := one_limb hnq hvq hone
      have HC1 : Hid (∀ W, Below w.heap.size w W → ∃ b o, aq = some ⟨b, o, none⟩ ∧ W.cell? ⟨b, o, none⟩ = some (.int .u64 (n : Int))) := fun W hW => by
        obtain ⟨b, o, e, hcell⟩ := unhide HP W hW 0 (by omega)
        refine ⟨b, o, e, ?_⟩
        rw [Nat.add_zero] at hcell
        rw [hcell]
        subst hl
        rw [← hyn]; rfl
      have H82 := hide (fun W x (hx : IsBig W x m) => divShort_any x m n k W hx hk (unhide HM) hn0 hnB)
      rw [hone] at HY H50c ⊢
      generalize lp.length = np at *
      clear hx hy hm hlp hlq hrp hrq hnp hnq hvp hvq hL h1 HP hl hyn hone
      go_enter Tryz.func82, Tryz.ntmps82
      go_upto_region 4 with (go_at_call 66; go_must (refine (unhide H50c _ ((unhide HX).later (((((Below.refl _ _).alloc (Nat.le_refl _) _).alloc (by simp) _).alloc (by simp; omega) _).alloc (by simp; omega) _)) ((unhide HY).later (((((Below.refl _ _).alloc (Nat.le_refl _) _).alloc (by simp) _).alloc (by simp; omega) _).alloc (by simp; omega) _))).mono ?_; rintro e w2 ⟨rfl, hb2⟩; have HB2 := hide (res4 (hb2.mono (by simp))); have b0 := (unhide HB2).c0; have b1 := (unhide HB2).c1; clear hb2))
      obtain ⟨bq, oq, rfl, hcq⟩ := unhide HC1 w2 (unhide HB2).below
      go_region_with (go_at_call 103; refine (unhide H82 _ _ (((unhide HX).later (unhide HB2).below).later ((Below.refl _ _).drew))).mono ?_; rintro e w3 ⟨a1, n1, c1, a2, n2, c2, rfl, hr1, hr2, hb3⟩; have hb3' : Below w2.heap.size w2 w3 := (Below.refl _ _).drew.trans hb3; have HB3 := hide ((unhide HB2).on (hb3'.mono (unhide HB2).size)); have HR := hide (And.intro hr1 hr2); clear hr1 hr2 hb3 hb3'; have b2 := (unhide HB3).c2; have f2 := (unhide HB3).f2; have b3 := (unhide HB3).c3; have f3 := (unhide HB3).f3)
      all_goals (
        obtain ⟨r1, r2, r3⟩ := (unhide HB3).done _ _ (unhide HR).1 (unhide HR).2
        go_wp2
        exact bodyPost_ret (v := .tuple #[.agg #[.slice a1 n1 c1], .agg #[.slice a2 n2 c2]]) (by simp [results, Tryz.results82, go_sem, b2, b3]) rfl ⟨_, _, _, _, _, _, rfl, r1, r2, r3⟩)
    · have hnB : 1000000000 ≤ n := by
        apply Decidable.byContradiction
        intro hc2
        have h2 : lq.length ≤ 1 := Cub.len_le hnq (by rw [hvq, Nat.pow_one]; omega)
        have h3 : lq = [] := List.length_eq_zero_iff.1 (by omega)
        rw [h3] at hvq
        have : Cub.lval 1000000000 [] = 0 := rfl
        omega
      have H83 := hide (hL hnB (by omega))
      have hone' : ((lq.length : Int) == 1) = false := by rw [beq_eq_false_iff_ne]; omega
      generalize lp.length = np at *
      generalize lq.length = nq at *
      clear hx hy hm hlp hrp hrq hnp hnq hvp hvq hL h1 HP hone
      go_enter Tryz.func82, Tryz.ntmps82
      go_wp2_with (first
        | (go_at_call 66; go_must (refine (unhide H50c _ ((unhide HX).later (((((Below.refl _ _).alloc (Nat.le_refl _) _).alloc (by simp) _).alloc (by simp; omega) _).alloc (by simp; omega) _)) ((unhide HY).later (((((Below.refl _ _).alloc (Nat.le_refl _) _).alloc (by simp) _).alloc (by simp; omega) _).alloc (by simp; omega) _))).mono ?_; rintro e w2 ⟨rfl, hb2⟩; have HB2 := hide (res4 (hb2.mono (by simp))); have b0 := (unhide HB2).c0; have b1 := (unhide HB2).c1; clear hb2))
        | (go_at_call 104; go_must (refine (unhide H83 _ _ _ ((unhide HX).later (unhide HB2).below) ((unhide HY).later (unhide HB2).below)).mono ?_; rintro e w3 ⟨a1, n1, c1, a2, n2, c2, rfl, hr1, hr2, hb3⟩; have HB3 := hide ((unhide HB2).on (hb3.mono (unhide HB2).size)); have HR := hide (And.intro hr1 hr2); clear hr1 hr2 hb3; have b2 := (unhide HB3).c2; have f2 := (unhide HB3).f2; have b3 := (unhide HB3).c3; have f3 := (unhide HB3).f3)))
      obtain ⟨r1, r2, r3⟩ := (unhide HB3).done _ _ (unhide HR).1 (unhide HR).2
      exact bodyPost_ret (v := .tuple #[.agg #[.slice a1 n1 c1], .agg #[.slice a2 n2 c2]]) (by simp [results, Tryz.results82, go_sem, b2, b3]) rfl ⟨_, _, _, _, _, _, rfl, r1, r2, r3⟩
end Go.Proofs.YtedohdcjichanaaGreatDoor

namespace Cub
/-- How far the guess has come: d is not too few; r is what is left of the head. -/
structure GuessInv (h w0 y1 y2 d r : Nat) : Prop where
  lt : d < 1000000000
  sum : r + d * y1 = h
  few : ∀ q, q < 1000000000 → q * y1 ≤ h → q * (y1 * 1000000000 + y2) ≤ h * 1000000000 + w0 → q ≤ d
theorem GuessInv.start (h w0 y1 y2 : Nat) (hy : 0 < y1) : GuessInv h w0 y1 y2 (min (h / y1) 999999999) (h - min (h / y1) 999999999 * y1) := by
  have h1 : min (h / y1) 999999999 * y1 ≤ h := Nat.le_trans (Nat.mul_le_mul_right _ (Nat.min_le_left _ _)) (Nat.div_mul_le_self h y1)
  refine ⟨by omega, by omega, fun q hq hqh _ => ?_⟩
  have h2 : q ≤ h / y1 := (Nat.le_div_iff_mul_le hy).2 hqh
  omega
theorem GuessInv.step {h w0 y1 y2 d r : Nat} (i : GuessInv h w0 y1 y2 d r) (hgt : r * 1000000000 + w0 < d * y2) : 1 ≤ d ∧ GuessInv h w0 y1 y2 (d - 1) (r + y1) := by
  have hd : 1 ≤ d := by
    rcases Nat.eq_zero_or_pos d with e | e
    · subst e; omega
    · exact e
  obtain ⟨e, rfl⟩ : ∃ e, d = e + 1 := ⟨d - 1, by omega⟩
  have h1 := i.sum
  have h2 := i.lt
  refine ⟨hd, by omega, ?_, fun q hq hqh hqm => ?_⟩
  · rw [Nat.add_sub_cancel]
    rw [Nat.add_mul, Nat.one_mul] at h1
    omega
  · have h3 := i.few q hq hqh hqm
    rcases Nat.lt_or_ge e q with h4 | h4
    · have h5 : q = e + 1 := by omega
      subst h5
      rw [Nat.mul_add, ← Nat.mul_assoc] at hqm
      have h6 := congrArg (· * 1000000000) h1
      simp only [Nat.add_mul (_ : Nat) _ 1000000000] at h6
      omega
    · omega
end Cub
namespace Go.Proofs.YtedohdcjichanaaGreatDoor
open Go.RowKit

theorem guess_min (h y d : Nat) (hB : h < 1000000000000000000) (hd : d = min (h / y) 999999999) :
    (if 999999999 < IntKind.u64.wrap ((h : Int) / (y : Int)) then (999999999 : Int) else IntKind.u64.wrap ((h : Int) / (y : Int))) = (d : Int) := by
  have h1 := Nat.div_le_self h y
  have e : (h : Int) / (y : Int) = ((h / y : Nat) : Int) := (Int.natCast_ediv h y).symm
  rw [e]
  generalize h / y = q at *
  have w1 : IntKind.u64.wrap (q : Int) = (q : Int) := by rw [IntKind.wrap_u64]; omega
  rw [w1, hd]
  split <;> omega

theorem guess_min' (h y d : Nat) (hB : h < 1000000000000000000) (hd : d = min (h / y) 999999999) :
    min (IntKind.u64.wrap ((h : Int) / (y : Int))) 999999999 = (d : Int) := by
  have h1 := guess_min h y d hB hd
  rw [← h1]
  split <;> omega

set_option maxRecDepth 100000 in
set_option maxHeartbeats 1000000 in
theorem guess_any (gw ow n cw : Nat) (ab : Option Addr) (cb w0 w1 w2 y1 y2 : Nat) (gb ob : Nat) (w : World) (hn : 2 ≤ n) (hn2 : n ≤ 10000000) (hcw : n + 1 ≤ cw)
    (hab : ab = some ⟨gb, ob, none⟩) (h2 : w.cell? ⟨gw, ow + n, none⟩ = some (.int .u64 (w2 : Int))) (h1 : w.cell? ⟨gw, ow + (n - 1), none⟩ = some (.int .u64 (w1 : Int))) (h0 : w.cell? ⟨gw, ow + (n - 2), none⟩ = some (.int .u64 (w0 : Int)))
    (k1 : w.cell? ⟨gb, ob + (n - 1), none⟩ = some (.int .u64 (y1 : Int))) (k2 : w.cell? ⟨gb, ob + (n - 2), none⟩ = some (.int .u64 (y2 : Int)))
    (l0 : w0 < 1000000000) (l1 : w1 < 1000000000) (l2 : w2 < 1000000000) (m1 : y1 < 1000000000) (m2 : y2 < 1000000000) (hy : 0 < y1) :
    Calls Tryz.prog 122 #[.slice (some ⟨gw, ow, none⟩) (n + 1) cw, .slice ab n cb] w fun e w' => ∃ d : Nat, e = .returned (.int .u64 (d : Int)) ∧ d < 1000000000 ∧ (∀ q, q < 1000000000 → q * y1 ≤ w2 * 1000000000 + w1 → q * (y1 * 1000000000 + y2) ≤ (w2 * 1000000000 + w1) * 1000000000 + w0 → q ≤ d) ∧ Below w.heap.size w w' := by
  subst hab
  obtain ⟨p, rfl⟩ : ∃ p, n = p + 2 := ⟨n - 2, by omega⟩
  rw [show p + 2 - 1 = p + 1 by omega] at h1 k1
  rw [show p + 2 - 2 = p by omega] at h0 k2
  obtain ⟨h, hh⟩ : ∃ h, h = w2 * 1000000000 + w1 := ⟨_, rfl⟩
  have hB : h < 1000000000000000000 := by omega
  have hhI : (w2 : Int) * 1000000000 + (w1 : Int) = (h : Int) := by omega
  have HG := hide (Cub.GuessInv.start h w0 y1 y2 hy)
  rw [← hh]
  have HHI := hide hhI
  clear hh hhI
  go_enter Tryz.func122, Tryz.ntmps122
  go_wp2
  have j1 : (p : Int) + 2 < (p : Int) + 2 + 1 := by omega
  have j2 : (p : Int) + 1 < (p : Int) + 2 + 1 := by omega
  have j3 : (p : Int) < (p : Int) + 2 + 1 := by omega
  have j4 : (p : Int) + 1 < (p : Int) + 2 := by omega
  have j5 : (p : Int) < (p : Int) + 2 := by omega
  go_quiet (fail)
  rw [unhide HHI]
  have hy0 : ¬ y1 = 0 := by omega
  go_upto_region 4 with fail
  obtain ⟨d0, hd0⟩ : ∃ d0, d0 = min (h / y1) 999999999 := ⟨_, rfl⟩
  first | rw [guess_min h y1 d0 hB hd0] | rw [guess_min' h y1 d0 hB hd0]
  rw [← hd0] at HG
  obtain ⟨m0, hm0⟩ : ∃ m0, m0 = d0 * y1 := ⟨_, rfl⟩
  have hmI : (d0 : Int) * (y1 : Int) = (m0 : Int) := by rw [hm0]; simp
  have hmh : m0 ≤ h := by have := (unhide HG).sum; rw [← hm0] at this; omega
  rw [← hm0] at HG
  clear hd0 hm0
  go_wp2
  go_loopw [7, 8] (fun a b wr => ∃ d r : Nat, a = .int .u64 (d : Int) ∧ b = .int .u64 (r : Int) ∧ r ≤ h ∧ Hid (Cub.GuessInv h w0 y1 y2 d r) ∧ Below w.heap.size w wr) (fun a _ _ => (intOf a).toNat)
  case atStart => exact ⟨d0, h - m0, rfl, by go_num, by omega, HG, below_drewN (Below.refl _ _) _⟩
  case round =>
    obtain ⟨d, r, rfl, rfl, hr, HI, hbl⟩ := hrel
    have h0' := (hbl.cell (p := ⟨gw, ow + p, none⟩) (World.block_lt_of_cell? _ _ h0)).trans h0
    have k1' := (hbl.cell (p := ⟨gb, ob + (p + 1), none⟩) (World.block_lt_of_cell? _ _ k1)).trans k1
    have k2' := (hbl.cell (p := ⟨gb, ob + p, none⟩) (World.block_lt_of_cell? _ _ k2)).trans k2
    clear hmI hmh HG
    have hdl := (unhide HI).lt
    obtain ⟨dy, hdy⟩ : ∃ dy, dy = d * y2 := ⟨_, rfl⟩
    have hdyI : (d : Int) * (y2 : Int) = (dy : Int) := by rw [hdy]; simp
    have hdyB : dy ≤ 999999999 * 999999999 := by rw [hdy]; exact Nat.mul_le_mul (by omega) (by omega)
    by_cases hrB : r < 1000000000
    · have hrd : decide ((r : Int) < 1000000000) = true := by rw [decide_eq_true_eq]; omega
      by_cases hgt : r * 1000000000 + w0 < dy
      · obtain ⟨hd1, hI'⟩ := (unhide HI).step (by rw [← hdy]; exact hgt)
        have HI' := hide hI'
        have hs := hI'.sum
        have hgI : decide ((r : Int) * 1000000000 + (w0 : Int) < (dy : Int)) = true := by rw [decide_eq_true_eq]; omega
        clear hI' hdy
        have hr2 : r + y1 ≤ h := by omega
        clear hs
        go_upto_region 5 with fail
        go_quiet (fail)
        go_wp2
        go_roundw
        case rel => exact ⟨d - 1, r + y1, by go_num, by go_num, hr2, HI', below_drewN hbl _⟩
        case measure => simp [intOf]; omega
      · have hgI : decide ((r : Int) * 1000000000 + (w0 : Int) < (dy : Int)) = false := by rw [decide_eq_false_iff_not]; omega
        clear hdy
        go_upto_region 5 with fail
        go_quiet (fail)
        go_wp2
        go_ret
        exact ⟨d, rfl, hdl, (unhide HI).few, below_drewN hbl _⟩
    · have hrd : decide ((r : Int) < 1000000000) = false := by rw [decide_eq_false_iff_not]; omega
      clear hdy
      go_upto_region 5 with fail
      go_quiet (fail)
      go_wp2
      go_ret
      exact ⟨d, rfl, hdl, (unhide HI).few, below_drewN hbl _⟩
end Go.Proofs.YtedohdcjichanaaGreatDoor

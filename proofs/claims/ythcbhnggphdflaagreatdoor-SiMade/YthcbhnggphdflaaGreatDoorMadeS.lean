/- si.Made (13). -/
import Derived.Test.YthcbhnggphdflaaGreatDoorFindS
namespace Go.Proofs.YthcbhnggphdflaaGreatDoor
open Go.RowKit
def ksy : Nat → ByteArray
  | 0 => ⟨#[109]⟩
  | 1 => ⟨#[107, 103]⟩
  | 2 => ⟨#[115]⟩
  | 3 => ⟨#[65]⟩
  | 4 => ⟨#[75]⟩
  | 5 => ⟨#[109, 111, 108]⟩
  | 6 => ⟨#[99, 100]⟩
  | _ => ⟨#[98]⟩
def mkL (ev : Nat → Int) : Nat → List Value
  | 0 => []
  | k + 1 => mkL ev k ++ (if ev k = 0 then [] else [.string (ksy k), .int .i64 (ev k)])
def cntM (ev : Nat → Int) : Nat → Nat
  | 0 => 0
  | k + 1 => cntM ev k + (if ev k = 0 then 0 else 1)
theorem cntM_le (ev : Nat → Int) : ∀ k, cntM ev k ≤ k
  | 0 => Nat.le_refl _
  | k + 1 => by have := cntM_le ev k; unfold cntM; split <;> omega
theorem mkL_yes (ev : Nat → Int) (k : Nat) (h : ev k ≠ 0) : mkL ev (k + 1) = mkL ev k ++ [.string (ksy k), .int .i64 (ev k)] ∧ cntM ev (k + 1) = cntM ev k + 1 := by simp [mkL, cntM, h]
theorem mkL_no (ev : Nat → Int) (k : Nat) (h : ev k = 0) : mkL ev (k + 1) = mkL ev k ∧ cntM ev (k + 1) = cntM ev k := by simp [mkL, cntM, h]
theorem info40 : (Tryz.prog.info? 40).map (fun i => (i.zero, i.size, i.bytes)) = some (some (.agg #[.string ⟨#[]⟩, .int .i64 0]), 2, 24) := by kernel_rfl
theorem under36 : Tryz.prog.underlying 36 = some (.slice 40) := by kernel_rfl
theorem news2 (W : World) (x0 x1 : Value) (ty : Nat) : ∀ j u, [x0, x1][j]? = some u → (W.alloc (.cells #[x0, x1] ty)).cell? ((⟨W.heap.size, 0, none⟩ : Addr).add j) = some u := by
  intro j u hu
  have h := (OwnU.new W #[x0, x1] ty).ub.c j u (by simpa using hu)
  have e : (⟨W.heap.size, 0, none⟩ : Addr).add j = ⟨W.heap.size, j, none⟩ := by by_cases hj : j = 0 <;> simp [Addr.add, hj]
  rw [e]
  exact h
theorem one2 (s : ByteArray) (n : Int) : ∀ u ∈ ([.string s, .int .i64 n] : List Value), u.oneCell' = true := by
  intro u hu
  simp only [List.mem_cons, List.not_mem_nil, or_false] at hu
  rcases hu with rfl | rfl <;> rfl
theorem parts_sym : ∀ k : Nat, k < 8 → partsA[k * 15 + 1]? = some (.string (ksy k))
  | 0, _ => by kernel_rfl
  | 1, _ => by kernel_rfl
  | 2, _ => by kernel_rfl
  | 3, _ => by kernel_rfl
  | 4, _ => by kernel_rfl
  | 5, _ => by kernel_rfl
  | 6, _ => by kernel_rfl
  | 7, _ => by kernel_rfl
  | _ + 8, h => absurd h (by omega)
set_option maxRecDepth 100000 in
set_option maxHeartbeats 4000000 in
theorem made_any (ev : Nat → Int) (n d : Int) (w : World) : Calls Tryz.prog 28 #[.agg #[.int .i64 (ev 0), .int .i64 (ev 1), .int .i64 (ev 2), .int .i64 (ev 3), .int .i64 (ev 4), .int .i64 (ev 5), .int .i64 (ev 6), .int .i64 (ev 7), .int .i64 n, .int .i64 d], .agg partsA] w fun r w' => ∃ v, r = .returned v ∧ w'.ownsRow w.heap.size 40 2 v (cntM ev 8) (mkL ev 8) ∧ Below w.heap.size w w' := by
  obtain ⟨i0, hi, hz0, hz1, hz2⟩ := info_parts info40
  obtain ⟨pa, hpa⟩ : ∃ pa, pa = partsA := ⟨_, rfl⟩
  have HPS : Hid (∀ k : Nat, k < 8 → pa[k * 15 + 1]? = some (.string (ksy k))) := by rw [hpa]; exact parts_sym
  rw [← hpa]
  clear hpa
  obtain ⟨V, hV⟩ : ∃ V, V = (w.alloc (.cells #[.int .i64 (ev 0), .int .i64 (ev 1), .int .i64 (ev 2), .int .i64 (ev 3), .int .i64 (ev 4), .int .i64 (ev 5), .int .i64 (ev 6), .int .i64 (ev 7), .int .i64 n, .int .i64 d] 55)).alloc (.cells pa 48) := ⟨_, rfl⟩
  have HB : Hid (Below w.heap.size w V) := by rw [hV]; exact ((Below.refl _ _).alloc (Nat.le_refl _) _).alloc (by simp) _
  have HA : Hid (OwnU V w.heap.size 55 #[.int .i64 (ev 0), .int .i64 (ev 1), .int .i64 (ev 2), .int .i64 (ev 3), .int .i64 (ev 4), .int .i64 (ev 5), .int .i64 (ev 6), .int .i64 (ev 7), .int .i64 n, .int .i64 d]) := by rw [hV]; exact (OwnU.new _ _ _).alloc _
  have HO : Hid (OwnU V (w.heap.size + 1) 48 pa) := by rw [hV]; have h := OwnU.new (w.alloc (.cells #[.int .i64 (ev 0), .int .i64 (ev 1), .int .i64 (ev 2), .int .i64 (ev 3), .int .i64 (ev 4), .int .i64 (ev 5), .int .i64 (ev 6), .int .i64 (ev 7), .int .i64 n, .int .i64 d] 55)) pa 48; rw [Dm.size_alloc] at h; exact h
  have HV := hide hV
  clear hV
  go_enter Tryz.func28, Tryz.ntmps28
  go_upto_region 1 with fail
  rw [← un HV]
  clear HV
  have a0 : V.cell? ⟨w.heap.size, 0, none⟩ = some (.int .i64 (ev 0)) := (un HA).ub.c 0 _ rfl
  have a1 : V.cell? ⟨w.heap.size, 1, none⟩ = some (.int .i64 (ev 1)) := (un HA).ub.c 1 _ rfl
  have a2 : V.cell? ⟨w.heap.size, 2, none⟩ = some (.int .i64 (ev 2)) := (un HA).ub.c 2 _ rfl
  have a3 : V.cell? ⟨w.heap.size, 3, none⟩ = some (.int .i64 (ev 3)) := (un HA).ub.c 3 _ rfl
  have a4 : V.cell? ⟨w.heap.size, 4, none⟩ = some (.int .i64 (ev 4)) := (un HA).ub.c 4 _ rfl
  have a5 : V.cell? ⟨w.heap.size, 5, none⟩ = some (.int .i64 (ev 5)) := (un HA).ub.c 5 _ rfl
  have a6 : V.cell? ⟨w.heap.size, 6, none⟩ = some (.int .i64 (ev 6)) := (un HA).ub.c 6 _ rfl
  have a7 : V.cell? ⟨w.heap.size, 7, none⟩ = some (.int .i64 (ev 7)) := (un HA).ub.c 7 _ rfl
  go_upto_region 3 with fail
  clear a0 a1 a2 a3 a4 a5 a6 a7 HA
  go_loopw [5, 10] (fun s5 s10 wr => ∃ (k : Nat) (v : Value), k ≤ 8 ∧ v = s5 ∧ s10 = .int .i64 (k : Int) ∧ Hid (wr.ownsRow w.heap.size 40 2 v (cntM ev k) (mkL ev k)) ∧ Hid (Below w.heap.size w wr) ∧ Hid (OwnU wr (w.heap.size + 1) 48 pa)) (fun _ s10 _ => 8 - (intOf s10).toNat)
  case atStart => exact ⟨0, _, by omega, rfl, rfl, World.ownsRow_nil _ _ _ _, HB, HO⟩
  case round =>
    clear HB HO
    obtain ⟨k, v, hk, rfl, rfl, HR, HB, HO⟩ := hrel
    by_cases hlt : k < 8
    · have hkI : (k : Int) < 8 := by omega
      have hk0 : (0 : Int) ≤ (k : Int) := by omega
      have hix := evIx ev k hlt
      have p1 := (un HO).ub.c _ _ (un HPS k hlt)
      have HY := hide (mkL_yes ev k); have HN := hide (mkL_no ev k)
      have HCL := hide (cntM_le ev k)
      by_cases h0 : ev k = 0
      · have HMN := hide (un HN h0)
        rw [h0] at hix
        clear HY HN h0
        go_wp2_with fail
        go_roundw
        case rel => exact ⟨k + 1, v, by omega, rfl, by go_num, by rw [(un HMN).1, (un HMN).2]; exact HR, HB, HO⟩
        case measure => simp [intOf]; omega
      · have HMY := hide (un HY h0)
        have hne : (ev k == 0) = false := by simpa using h0
        clear HY HN
        generalize ev k = e at *
        generalize ksy k = sy at *
        have HOA := hide ((un HO).alloc (.cells #[.string sy, .int .i64 e] 40))
        have HRA := hide ((un HR).alloc (.cells #[.string sy, .int .i64 e] 40))
        go_wp2_with (at_builtin; go_must (refine wpList_append_own _ rfl _ _ 36 rfl w.heap.size 40 i0 (.agg #[.string ⟨#[]⟩, .int .i64 0]) 2 24 under36 hi hz0 hz1 hz2 rfl (by decide) _ (cntM ev k) (mkL ev k) rfl (un HRA) ⟨wr.heap.size, 0, none⟩ 1 1 [.string sy, .int .i64 e] rfl rfl (news2 _ _ _ _) (one2 _ _) (by have := un HCL; unfold maxLen; omega) (by have := un HCL; omega) (by have h1 := (un HB).size; simp; omega) ?_; intro v2 wa hown hgrow hnil; have HOW := hide hown; have HB4 : Hid (Below w.heap.size w wa) := ((un HB).alloc (un HB).size _).grown hgrow (by have h1 := (un HB).size; simp; omega) (fun j hj => ((un HRA).lt j hj).1); have HO4 : Hid (OwnU wa (w.heap.size + 1) 48 pa) := ownGrown (un HOA) hgrow (rowNe (un HRA) (un HOA) (by decide)); clear hown hgrow hnil p1))
        go_roundw
        case rel => exact ⟨k + 1, v2, by omega, rfl, by go_num, by rw [(un HMY).1, (un HMY).2]; exact HOW, HB4, HO4⟩
        case measure => simp [intOf]; omega
    · have hkI : ¬ (k : Int) < 8 := by omega
      have HK : Hid (k = 8) := by show k = 8; omega
      have HR8 : Hid (wr.ownsRow w.heap.size 40 2 v (cntM ev 8) (mkL ev 8)) := by rw [← un HK]; exact HR
      go_wp2_with fail
      go_ret
      exact ⟨v, rfl, un HR8, un HB⟩
theorem evIx26 (ev : Nat → Int) : ∀ k : Nat, k < 8 → ∀ w : World, (Instr.index 26 (.agg #[.int .i64 (ev 0), .int .i64 (ev 1), .int .i64 (ev 2), .int .i64 (ev 3), .int .i64 (ev 4), .int .i64 (ev 5), .int .i64 (ev 6), .int .i64 (ev 7)]) (.int .i64 (k : Int))).run Tryz.prog w = .ok (.int .i64 (ev k)) w
  | 0, _ => fun w => by kernel_rfl
  | 1, _ => fun w => by kernel_rfl
  | 2, _ => fun w => by kernel_rfl
  | 3, _ => fun w => by kernel_rfl
  | 4, _ => fun w => by kernel_rfl
  | 5, _ => fun w => by kernel_rfl
  | 6, _ => fun w => by kernel_rfl
  | 7, _ => fun w => by kernel_rfl
  | _ + 8, h => absurd h (by omega)
def symP : Array Value := #[.string ⟨#[109]⟩, .string ⟨#[107, 103]⟩, .string ⟨#[115]⟩, .string ⟨#[65]⟩, .string ⟨#[75]⟩, .string ⟨#[109, 111, 108]⟩, .string ⟨#[99, 100]⟩, .string ⟨#[98]⟩]
theorem symP_at : ∀ k : Nat, k < 8 → symP[k]? = some (.string (ksy k))
  | 0, _ => rfl
  | 1, _ => rfl
  | 2, _ => rfl
  | 3, _ => rfl
  | 4, _ => rfl
  | 5, _ => rfl
  | 6, _ => rfl
  | 7, _ => rfl
  | _ + 8, h => absurd h (by omega)
set_option maxRecDepth 100000 in
set_option maxHeartbeats 4000000 in
theorem refParts (ev : Nat → Int) (w : World) : Calls Tryz.prog 29 #[.agg #[.int .i64 (ev 0), .int .i64 (ev 1), .int .i64 (ev 2), .int .i64 (ev 3), .int .i64 (ev 4), .int .i64 (ev 5), .int .i64 (ev 6), .int .i64 (ev 7)]] w fun r w' => ∃ v, r = .returned v ∧ w'.ownsRow w.heap.size 40 2 v (cntM ev 8) (mkL ev 8) ∧ Below w.heap.size w w' := by
  obtain ⟨i0, hi, hz0, hz1, hz2⟩ := info_parts info40
  obtain ⟨V, hV⟩ : ∃ V, V = (w.alloc (.cells #[.int .i64 (ev 0), .int .i64 (ev 1), .int .i64 (ev 2), .int .i64 (ev 3), .int .i64 (ev 4), .int .i64 (ev 5), .int .i64 (ev 6), .int .i64 (ev 7)] 26)).alloc (.cells symP 9) := ⟨_, rfl⟩
  have HB : Hid (Below w.heap.size w V) := by rw [hV]; exact ((Below.refl _ _).alloc (Nat.le_refl _) _).alloc (by simp) _
  have HO : Hid (OwnU V (w.heap.size + 1) 9 symP) := by rw [hV]; have h := OwnU.new (w.alloc (.cells #[.int .i64 (ev 0), .int .i64 (ev 1), .int .i64 (ev 2), .int .i64 (ev 3), .int .i64 (ev 4), .int .i64 (ev 5), .int .i64 (ev 6), .int .i64 (ev 7)] 26)) symP 9; rw [Dm.size_alloc] at h; exact h
  have HV := hide hV
  clear hV
  go_enter Tryz.func29, Tryz.ntmps29
  go_upto_region 4 with fail
  have hVV := un HV
  unfold symP at hVV
  rw [← hVV]
  clear HV hVV
  go_loopw [4, 9] (fun s4 s9 wr => ∃ (k : Nat) (v : Value), k ≤ 8 ∧ v = s4 ∧ s9 = .int .i64 (k : Int) ∧ Hid (wr.ownsRow w.heap.size 40 2 v (cntM ev k) (mkL ev k)) ∧ Hid (Below w.heap.size w wr) ∧ Hid (OwnU wr (w.heap.size + 1) 9 symP)) (fun _ s9 _ => 8 - (intOf s9).toNat)
  case atStart => exact ⟨0, _, by omega, rfl, rfl, World.ownsRow_nil _ _ _ _, HB, HO⟩
  case round =>
    clear HB HO
    obtain ⟨k, v, hk, rfl, rfl, HR, HB, HO⟩ := hrel
    by_cases hlt : k < 8
    · have hkI : (k : Int) < 8 := by omega
      have hk0 : (0 : Int) ≤ (k : Int) := by omega
      have hix := evIx26 ev k hlt
      have p1 := (un HO).ub.c _ _ (symP_at k hlt)
      have HY := hide (mkL_yes ev k); have HN := hide (mkL_no ev k)
      have HCL := hide (cntM_le ev k)
      by_cases h0 : ev k = 0
      · have HMN := hide (un HN h0)
        rw [h0] at hix
        clear HY HN h0
        go_wp2_with fail
        go_roundw
        case rel => exact ⟨k + 1, v, by omega, rfl, by go_num, by rw [(un HMN).1, (un HMN).2]; exact HR, HB, HO⟩
        case measure => simp [intOf]; omega
      · have HMY := hide (un HY h0)
        have hne : (ev k == 0) = false := by simpa using h0
        clear HY HN
        generalize ev k = e at *
        generalize ksy k = sy at *
        have HOA := hide ((un HO).alloc (.cells #[.string sy, .int .i64 e] 40))
        have HRA := hide ((un HR).alloc (.cells #[.string sy, .int .i64 e] 40))
        go_wp2_with (at_builtin; go_must (refine wpList_append_own _ rfl _ _ 36 rfl w.heap.size 40 i0 (.agg #[.string ⟨#[]⟩, .int .i64 0]) 2 24 under36 hi hz0 hz1 hz2 rfl (by decide) _ (cntM ev k) (mkL ev k) rfl (un HRA) ⟨wr.heap.size, 0, none⟩ 1 1 [.string sy, .int .i64 e] rfl rfl (news2 _ _ _ _) (one2 _ _) (by have := un HCL; unfold maxLen; omega) (by have := un HCL; omega) (by have h1 := (un HB).size; simp; omega) ?_; intro v2 wa hown hgrow hnil; have HOW := hide hown; have HB4 : Hid (Below w.heap.size w wa) := ((un HB).alloc (un HB).size _).grown hgrow (by have h1 := (un HB).size; simp; omega) (fun j hj => ((un HRA).lt j hj).1); have HO4 : Hid (OwnU wa (w.heap.size + 1) 9 symP) := ownGrown (un HOA) hgrow (rowNe (un HRA) (un HOA) (by decide)); clear hown hgrow hnil p1))
        go_roundw
        case rel => exact ⟨k + 1, v2, by omega, rfl, by go_num, by rw [(un HMY).1, (un HMY).2]; exact HOW, HB4, HO4⟩
        case measure => simp [intOf]; omega
    · have hkI : ¬ (k : Int) < 8 := by omega
      have HK : Hid (k = 8) := by show k = 8; omega
      have HR8 : Hid (wr.ownsRow w.heap.size 40 2 v (cntM ev 8) (mkL ev 8)) := by rw [← un HK]; exact HR
      go_wp2_with fail
      go_ret
      exact ⟨v, rfl, un HR8, un HB⟩
end Go.Proofs.YthcbhnggphdflaaGreatDoor

namespace Go.Proofs.YthcbhnggphdflaaGreatDoor
open Go.RowKit
set_option maxRecDepth 100000 in
set_option maxHeartbeats 4000000 in
theorem siMade_walk (s : ByteArray) (w : World) (nm sy : ByteArray) (tk x0 x1 x2 x3 x4 x5 x6 x7 x8 x9 : Int) (pa : Array Value) (c : Nat) (L : List Value)
    (hfi : ∀ W : World, Calls Tryz.prog 27 #[.string s] W fun r w' => r = .returned (.tuple #[.agg #[.string nm, .string sy, .int .i64 tk, .int .i64 x0, .int .i64 x1, .int .i64 x2, .int .i64 x3, .int .i64 x4, .int .i64 x5, .int .i64 x6, .int .i64 x7, .int .i64 x8, .int .i64 x9], .bool true]) ∧ Below W.heap.size W w')
    (hpa : ∀ W, Below w.heap.size w W → Calls Tryz.prog 20 #[] W fun r w' => r = .returned (.agg pa) ∧ Below W.heap.size W w')
    (hma : ∀ W : World, Calls Tryz.prog 28 #[.agg #[.int .i64 x0, .int .i64 x1, .int .i64 x2, .int .i64 x3, .int .i64 x4, .int .i64 x5, .int .i64 x6, .int .i64 x7, .int .i64 x8, .int .i64 x9], .agg pa] W fun r w' => ∃ v, r = .returned v ∧ w'.ownsRow W.heap.size 40 2 v c L ∧ Below W.heap.size W w') :
    Calls Tryz.prog 13 #[.string s] w fun r w' => ∃ v, r = .returned (.tuple #[v, .bool true]) ∧ w'.ownsRow w.heap.size 40 2 v c L ∧ Below w.heap.size w w' := by
  have HFI := hide hfi; have HPA := hide hpa; have HMA := hide hma
  have HB : Hid (Below w.heap.size w w) := Below.refl _ _
  clear hfi hpa hma
  go_enter Tryz.func13, Tryz.ntmps13
  go_upto_region 2 with (first
    | (go_at_call 27; go_must (refine (un HFI _).mono ?_; rintro e w1 ⟨rfl, hb⟩; have HB1 : Hid (Below w.heap.size w w1) := (un HB).trans (hb.mono (un HB).size); clear hb))
    | (refine storeT 57 13 info57s rfl (.tmp 4) (.tmp 9) rfl w1.heap.size z13 #[.string nm, .string sy, .int .i64 tk, .int .i64 x0, .int .i64 x1, .int .i64 x2, .int .i64 x3, .int .i64 x4, .int .i64 x5, .int .i64 x6, .int .i64 x7, .int .i64 x8, .int .i64 x9] rfl rfl rfl rfl (OwnU.new _ _ _) (by kernel_rfl) ?_))
  have hb2 : Below w1.heap.size w1 ((w1.alloc (.cells z13 57)).setRow w1.heap.size #[.string nm, .string sy, .int .i64 tk, .int .i64 x0, .int .i64 x1, .int .i64 x2, .int .i64 x3, .int .i64 x4, .int .i64 x5, .int .i64 x6, .int .i64 x7, .int .i64 x8, .int .i64 x9]) := below_setRow (albel _ _) (Nat.le_refl _) _
  have HX2 : Hid (OwnU ((w1.alloc (.cells z13 57)).setRow w1.heap.size #[.string nm, .string sy, .int .i64 tk, .int .i64 x0, .int .i64 x1, .int .i64 x2, .int .i64 x3, .int .i64 x4, .int .i64 x5, .int .i64 x6, .int .i64 x7, .int .i64 x8, .int .i64 x9]) w1.heap.size 57 #[.string nm, .string sy, .int .i64 tk, .int .i64 x0, .int .i64 x1, .int .i64 x2, .int .i64 x3, .int .i64 x4, .int .i64 x5, .int .i64 x6, .int .i64 x7, .int .i64 x8, .int .i64 x9]) := (OwnU.new _ _ _).setRow _
  have HB2 : Hid (Below w.heap.size w _) := (un HB1).trans (hb2.mono (un HB1).size)
  clear hb2 HB1 HB HFI
  generalize (w1.alloc (.cells z13 57)).setRow w1.heap.size #[.string nm, .string sy, .int .i64 tk, .int .i64 x0, .int .i64 x1, .int .i64 x2, .int .i64 x3, .int .i64 x4, .int .i64 x5, .int .i64 x6, .int .i64 x7, .int .i64 x8, .int .i64 x9] = w2 at *
  generalize w1.heap.size = g4 at *
  go_upto_region 4 with fail
  have HX3 : Hid (OwnU w2.drew g4 57 #[.string nm, .string sy, .int .i64 tk, .int .i64 x0, .int .i64 x1, .int .i64 x2, .int .i64 x3, .int .i64 x4, .int .i64 x5, .int .i64 x6, .int .i64 x7, .int .i64 x8, .int .i64 x9]) := un HX2
  have HB3 : Hid (Below w.heap.size w w2.drew) := (un HB2).drew
  have HSS : Hid (∀ W' : World, OwnU W' g4 57 #[.string nm, .string sy, .int .i64 tk, .int .i64 x0, .int .i64 x1, .int .i64 x2, .int .i64 x3, .int .i64 x4, .int .i64 x5, .int .i64 x6, .int .i64 x7, .int .i64 x8, .int .i64 x9] → W'.cell? ⟨g4, 0, none⟩ = some (.string nm) ∧ W'.cell? ⟨g4, 1, none⟩ = some (.string sy) ∧ W'.cell? ⟨g4, 2, none⟩ = some (.int .i64 tk) ∧ W'.cell? ⟨g4, 3, none⟩ = some (.int .i64 x0) ∧ W'.cell? ⟨g4, 4, none⟩ = some (.int .i64 x1) ∧ W'.cell? ⟨g4, 5, none⟩ = some (.int .i64 x2) ∧ W'.cell? ⟨g4, 6, none⟩ = some (.int .i64 x3) ∧ W'.cell? ⟨g4, 7, none⟩ = some (.int .i64 x4) ∧ W'.cell? ⟨g4, 8, none⟩ = some (.int .i64 x5) ∧ W'.cell? ⟨g4, 9, none⟩ = some (.int .i64 x6) ∧ W'.cell? ⟨g4, 10, none⟩ = some (.int .i64 x7) ∧ W'.cell? ⟨g4, 11, none⟩ = some (.int .i64 x8) ∧ W'.cell? ⟨g4, 12, none⟩ = some (.int .i64 x9)) := fun W' h1 => ⟨h1.ub.c 0 _ rfl, h1.ub.c 1 _ rfl, h1.ub.c 2 _ rfl, h1.ub.c 3 _ rfl, h1.ub.c 4 _ rfl, h1.ub.c 5 _ rfl, h1.ub.c 6 _ rfl, h1.ub.c 7 _ rfl, h1.ub.c 8 _ rfl, h1.ub.c 9 _ rfl, h1.ub.c 10 _ rfl, h1.ub.c 11 _ rfl, h1.ub.c 12 _ rfl⟩
  have HS0 := hide (un HSS _ (un HX3))
  clear HX2 HB2
  refine region_reads 4 (fun _ => True) (fun W' => W'.cell? ⟨g4, 0, none⟩ = some (.string nm) ∧ W'.cell? ⟨g4, 1, none⟩ = some (.string sy) ∧ W'.cell? ⟨g4, 2, none⟩ = some (.int .i64 tk) ∧ W'.cell? ⟨g4, 3, none⟩ = some (.int .i64 x0) ∧ W'.cell? ⟨g4, 4, none⟩ = some (.int .i64 x1) ∧ W'.cell? ⟨g4, 5, none⟩ = some (.int .i64 x2) ∧ W'.cell? ⟨g4, 6, none⟩ = some (.int .i64 x3) ∧ W'.cell? ⟨g4, 7, none⟩ = some (.int .i64 x4) ∧ W'.cell? ⟨g4, 8, none⟩ = some (.int .i64 x5) ∧ W'.cell? ⟨g4, 9, none⟩ = some (.int .i64 x6) ∧ W'.cell? ⟨g4, 10, none⟩ = some (.int .i64 x7) ∧ W'.cell? ⟨g4, 11, none⟩ = some (.int .i64 x8) ∧ W'.cell? ⟨g4, 12, none⟩ = some (.int .i64 x9)) 6 rfl (by kernel_rfl) ?_
  generalize w2.drew = U1 at *
  refine wpR_take7 (i := 0) (oi := _) (v := .pointer (some ⟨g4, 3, none⟩)) rfl (by kernel_rfl) (by kernel_rfl) (by kernel_rfl) (by kernel_rfl) (fun _ _ _ h => h) (Or.inl ⟨by rfl, ?_⟩) ⟨trivial, un HS0⟩ ?_
  · intro W' hW
    go_split_ands
    go_simp
  refine wpR_take7 (i := 1) (oi := _) (v := .agg #[.int .i64 x0, .int .i64 x1, .int .i64 x2, .int .i64 x3, .int .i64 x4, .int .i64 x5, .int .i64 x6, .int .i64 x7, .int .i64 x8, .int .i64 x9]) rfl (by kernel_rfl) (by kernel_rfl) (by kernel_rfl) (by kernel_rfl) (fun _ _ _ h => h) (Or.inl ⟨by rfl, ?_⟩) ⟨trivial, un HS0⟩ ?_
  · intro W' hW
    go_split_ands
    go_simp
  refine wpR_op (i := 2) (o := _) (by kernel_rfl) rfl rfl (fun K hK => ?_)
  go_simp
  refine (un HPA _ (un HB3)).mono ?_
  rintro e U4 ⟨rfl, hb⟩
  have HX4 := hide ((un HX3).later hb); have HB4 : Hid (Below w.heap.size w U4) := (un HB3).trans (hb.mono (un HB3).size)
  clear hb HX3 HB3
  refine hK _ _ ⟨trivial, un HSS _ (un HX4)⟩ ?_
  clear hK K
  refine wpR_op (i := 3) (o := _) (by kernel_rfl) rfl rfl (fun K hK => ?_)
  go_simp
  refine (un HMA _).mono ?_
  rintro e U5 ⟨v, rfl, hown, hb⟩
  have HOW : Hid (U5.ownsRow w.heap.size 40 2 v c L) := hown.mono (un HB4).size
  have HX5 := hide ((un HX4).later hb); have HB5 : Hid (Below w.heap.size w U5) := (un HB4).trans (hb.mono (un HB4).size)
  clear hb hown HX4 HB4
  refine hK _ _ ⟨trivial, un HSS _ (un HX5)⟩ ?_
  clear hK K
  refine wpR_late (i := 4) (o := _) (by kernel_rfl) rfl rfl (by kernel_rfl) (fun K hK => ?_)
  go_simp
  refine hK _ _ (un HSS _ (un HX5)) ?_
  clear hK K
  refine wpR_late (i := 5) (o := _) (by kernel_rfl) rfl rfl (by kernel_rfl) (fun K hK => ?_)
  go_simp
  refine hK _ _ (un HSS _ (un HX5)) ?_
  clear hK K
  refine wpR_done (by kernel_rfl) ?_
  go_wp2_with fail
  exact bodyPost_ret (v := .tuple #[v, .bool true]) (by simp [results, Tryz.results13, go_sem]) rfl ⟨v, rfl, un HOW, un HB5⟩
set_option maxRecDepth 100000 in
set_option maxHeartbeats 4000000 in
theorem siMade_none (s : ByteArray) (w : World) (hf : IsF29 (suB s) (-1)) : Calls Tryz.prog 13 #[.string s] w fun r w' => r = .returned (.tuple #[.slice none 0 0, .bool false]) ∧ Below w.heap.size w w' := by
  have HFI := hide (findS_no s hf)
  have HB : Hid (Below w.heap.size w w) := Below.refl _ _
  clear hf
  go_enter Tryz.func13, Tryz.ntmps13
  go_upto_region 2 with (first
    | (go_at_call 27; go_must (refine (un HFI _).mono ?_; rintro e w1 ⟨rfl, hb⟩; have HB1 : Hid (Below w.heap.size w w1) := (un HB).trans (hb.mono (un HB).size); clear hb))
    | (refine storeT 57 13 info57s rfl (.tmp 4) (.tmp 9) rfl w1.heap.size z13 z13 rfl rfl rfl rfl (OwnU.new _ _ _) (by kernel_rfl) ?_))
  have hb2 : Below w1.heap.size w1 ((w1.alloc (.cells z13 57)).setRow w1.heap.size z13) := below_setRow (albel _ _) (Nat.le_refl _) _
  have HB2 : Hid (Below w.heap.size w _) := (un HB1).trans (hb2.mono (un HB1).size)
  clear hb2 HB1 HB HFI
  generalize (w1.alloc (.cells z13 57)).setRow w1.heap.size z13 = w2 at *
  go_wp2_with fail
  exact bodyPost_ret (v := .tuple #[.slice none 0 0, .bool false]) (by simp [results, Tryz.results13, go_sem]) rfl ⟨rfl, un HB2⟩
theorem siMade_yes (s : ByteArray) (k : Nat) (hf : IsF29 (suB s) (k : Int)) (w : World) (htab : Tab w) : Calls Tryz.prog 13 #[.string s] w fun r w' => ∃ v, r = .returned (.tuple #[v, .bool true]) ∧ w'.ownsRow w.heap.size 40 2 v (cntM (evF (sut k)) 8) (mkL (evF (sut k)) 8) ∧ Below w.heap.size w w' :=
  siMade_walk s w _ _ _ _ _ _ _ _ _ _ _ _ _ partsA _ _ (fun W => findS_yes s k hf W) (fun W hb => parts_si W (htab.later hb)) (fun W => made_any (evF (sut k)) (sut k).n (sut k).d W)
end Go.Proofs.YthcbhnggphdflaaGreatDoor

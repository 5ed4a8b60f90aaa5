/- si.Find (11). -/
import Derived.Test.YthcbhnggphdflaaGreatDoorMade2
import Derived.Test.YthcbhnggphdflaaGreatDoorFindB
import Derived.Test.YthcbhnggphdflaaGreatDoorSiU
import Derived.Test.YthcbhnggphdflaaGreatDoorDimMem
import Derived.ChangeKeysEq
import Derived.Test.YthcbhnggphdflaaGreatDoorPfFactor
namespace Go.Proofs.YthcbhnggphdflaaGreatDoor
open Go.RowKit
def psy : Nat → ByteArray
  | 0 => ⟨#[109]⟩
  | 1 => ⟨#[103]⟩
  | 2 => ⟨#[115]⟩
  | 3 => ⟨#[65]⟩
  | 4 => ⟨#[75]⟩
  | 5 => ⟨#[109, 111, 108]⟩
  | 6 => ⟨#[99, 100]⟩
  | _ => ⟨#[98]⟩
def pix : Nat → Nat
  | 0 => 4
  | 1 => 5
  | 2 => 2
  | 3 => 3
  | 4 => 7
  | 5 => 1
  | 6 => 6
  | _ => 0
theorem pix_first : ∀ k, k < 8 → IsFirst (scB (psy k)) (pix k : Int) ∧ pix k < 8
  | 0, _ => ⟨Or.inl ⟨4, by decide, rfl, by decide +kernel, by decide +kernel⟩, by decide⟩
  | 1, _ => ⟨Or.inl ⟨5, by decide, rfl, by decide +kernel, by decide +kernel⟩, by decide⟩
  | 2, _ => ⟨Or.inl ⟨2, by decide, rfl, by decide +kernel, by decide +kernel⟩, by decide⟩
  | 3, _ => ⟨Or.inl ⟨3, by decide, rfl, by decide +kernel, by decide +kernel⟩, by decide⟩
  | 4, _ => ⟨Or.inl ⟨7, by decide, rfl, by decide +kernel, by decide +kernel⟩, by decide⟩
  | 5, _ => ⟨Or.inl ⟨1, by decide, rfl, by decide +kernel, by decide +kernel⟩, by decide⟩
  | 6, _ => ⟨Or.inl ⟨6, by decide, rfl, by decide +kernel, by decide +kernel⟩, by decide⟩
  | 7, _ => ⟨Or.inl ⟨0, by decide, rfl, by decide +kernel, by decide +kernel⟩, by decide⟩
  | _ + 8, h => absurd h (by omega)
theorem find_part (k : Nat) (hk : k < 8) (w : World) (htab : Tab w) : Calls Tryz.prog 15 #[.string (psy k)] w fun r w' => r = .returned (.tuple #[.agg (sct (pix k)).u, .bool true]) ∧ Below w.heap.size w w' := by
  refine (find_any (psy k) w htab).mono ?_
  rintro r w' ⟨v, rfl, hv, hb⟩
  rw [hv.det (Or.inl ⟨pix k, (pix_first k hk).2, (pix_first k hk).1, rfl⟩)]
  exact ⟨rfl, hb⟩
def symsA : Array Value := #[.string ⟨#[109]⟩, .string ⟨#[103]⟩, .string ⟨#[115]⟩, .string ⟨#[65]⟩, .string ⟨#[75]⟩, .string ⟨#[109, 111, 108]⟩, .string ⟨#[99, 100]⟩, .string ⟨#[98]⟩]
theorem symIx : ∀ k : Nat, k < 8 → ∀ w : World, (Instr.index 85 (.agg symsA) (.int .i64 (k : Int))).run Tryz.prog w = .ok (.string (psy k)) w
  | 0, _ => fun w => by kernel_rfl
  | 1, _ => fun w => by kernel_rfl
  | 2, _ => fun w => by kernel_rfl
  | 3, _ => fun w => by kernel_rfl
  | 4, _ => fun w => by kernel_rfl
  | 5, _ => fun w => by kernel_rfl
  | 6, _ => fun w => by kernel_rfl
  | 7, _ => fun w => by kernel_rfl
  | _ + 8, h => absurd h (by omega)
theorem z48 : Tryz.zeroCells48.size = 120 := by kernel_rfl
theorem info48 : (Tryz.prog.info? 48).map (·.size) = some 120 := by kernel_rfl
noncomputable def pA : Nat → Array Value
  | 0 => Tryz.zeroCells48
  | k + 1 => putAt (pA k) (k * 15) (sct (pix k)).u.toList
theorem pA_size : ∀ k, (pA k).size = 120
  | 0 => z48
  | k + 1 => by rw [pA, size_putAt, pA_size k]
noncomputable def partsA : Array Value := putAt (pA 8) 15 kilogramU.toList
theorem partsA_size : partsA.size = 120 := by unfold partsA; rw [size_putAt, pA_size]
theorem partsA_ones : partsA.all (·.oneCell') = true := by kernel_rfl
theorem pA_gram15 : ∀ j : Nat, j < 15 → (pA 8)[15 + j]? = gramU.toList[j]?
  | 0, _ => by kernel_rfl
  | 1, _ => by kernel_rfl
  | 2, _ => by kernel_rfl
  | 3, _ => by kernel_rfl
  | 4, _ => by kernel_rfl
  | 5, _ => by kernel_rfl
  | 6, _ => by kernel_rfl
  | 7, _ => by kernel_rfl
  | 8, _ => by kernel_rfl
  | 9, _ => by kernel_rfl
  | 10, _ => by kernel_rfl
  | 11, _ => by kernel_rfl
  | 12, _ => by kernel_rfl
  | 13, _ => by kernel_rfl
  | 14, _ => by kernel_rfl
  | _ + 15, h => absurd h (by omega)
theorem pA_gram (j : Nat) (v : Value) (h : gramU.toList[j]? = some v) : (pA 8)[15 + j]? = some v := by
  rw [pA_gram15 j (List.getElem?_eq_some_iff.1 h).1]
  exact h
theorem res48 {fn : Func} {p : Tmp} (h : fn.results = #[.cell p 48]) (tmps : Array Value) (w : World) (g : Nat) (vs : Array Value) (hl : vs.size = 120) (hp : tmps.getD p undef = .pointer (some ⟨g, 0, none⟩)) (ho : OwnU w g 48 vs) :
    (results fn tmps).run Tryz.prog w = .ok (.agg vs) w := by
  rw [results_cell1 h, hp]
  simp only [asAddr, Sem.run_pure, Result.andThen_ok]
  rw [run_loadVar_row w g 48 48 vs (0, 0) _ ho Tryz.underlying48 rfl (by rw [info48, hl])]
set_option maxRecDepth 100000 in
set_option maxHeartbeats 4000000 in
theorem parts_si (w : World) (htab : Tab w) : Calls Tryz.prog 20 #[] w fun r w' => r = .returned (.agg partsA) ∧ Below w.heap.size w w' := by
  obtain ⟨V, hV⟩ : ∃ V, V = (w.alloc (.cells Tryz.zeroCells48 48)).alloc (.cells Tryz.zeroCells48 48) := ⟨_, rfl⟩
  have HB : Hid (Below w.heap.size w V) := by rw [hV]; exact ((Below.refl _ _).alloc (Nat.le_refl _) _).alloc (by simp) _
  have HR : Hid (OwnU V w.heap.size 48 Tryz.zeroCells48) := by rw [hV]; exact (OwnU.new _ _ _).alloc _
  have HL : Hid (OwnU V (w.heap.size + 1) 48 (pA 0)) := by rw [hV]; have h := OwnU.new (w.alloc (.cells Tryz.zeroCells48 48)) Tryz.zeroCells48 48; rw [Dm.size_alloc] at h; exact h
  have HTA : Hid (∀ W, Below w.heap.size w W → Tab W) := fun W h => htab.later h
  have HV := hide hV
  clear hV htab
  go_enter Tryz.func20, Tryz.ntmps20
  go_upto_region 2 with fail
  rw [← un HV]
  clear HV
  go_upto_region 3 with (refine wpList_buildTo rfl 85 _ rfl (some 4) rfl symsA (by kernel_rfl) ?_)
  go_loopw [5] (fun s5 wr => ∃ (k : Nat), k ≤ 8 ∧ s5 = .int .i64 (k : Int) ∧ Hid (OwnU wr w.heap.size 48 Tryz.zeroCells48) ∧ Hid (OwnU wr (w.heap.size + 1) 48 (pA k)) ∧ Hid (Below w.heap.size w wr)) (fun s5 _ => 8 - (intOf s5).toNat)
  case atStart => exact ⟨0, by omega, rfl, HR, HL, HB⟩
  case round =>
    clear HR HL HB
    obtain ⟨k, hk, rfl, HR, HL, HB⟩ := hrel
    by_cases hlt : k < 8
    · have hkI : (k : Int) < 8 := by omega
      have hk0 : (0 : Int) ≤ (k : Int) := by omega
      have hix := symIx k hlt
      have HF := hide (fun W ht => find_part k hlt W ht)
      have HSZ : Hid ((sct (pix k)).u.size = 15) := size_sc _
      have HON : Hid ((sct (pix k)).u.all (·.oneCell') = true) := ones_sc _
      have HPS : Hid (pA (k + 1) = putAt (pA k) (k * 15) (sct (pix k)).u.toList) := rfl
      generalize (sct (pix k)).u = u at *
      generalize psy k = sy at *
      go_wp2_with (first
        | (go_at_call 15; go_must (refine (un HF _ (un HTA _ (un HB))).mono ?_; rintro e w1 ⟨rfl, hb⟩; have HR1 := hide ((un HR).later hb); have HL1 := hide ((un HL).later hb); have HB1 : Hid (Below w.heap.size w w1) := (un HB).trans (hb.mono (un HB).size); clear hb))
        | (refine wpList_store_mid rfl 30 (.tmp 15) (.tmp 13) rfl (w.heap.size + 1) (k * 15) u rfl rfl ((un HL1).there _ _ (by rw [un HSZ, pA_size]; omega)) (by rw [un HSZ]; exact info27) (un HON) ?_))
      have HL2 : Hid (OwnU (w1.setCells (w.heap.size + 1) (k * 15) u.toList) (w.heap.size + 1) 48 (pA (k + 1))) := by rw [un HPS]; exact OwnU.setCells _ _ _ _ (un HL1)
      have HR2 : Hid (OwnU (w1.setCells (w.heap.size + 1) (k * 15) u.toList) w.heap.size 48 Tryz.zeroCells48) := OwnU.otherCells (by omega) _ _ _ (un HR1)
      have HB2 : Hid (Below w.heap.size w (w1.setCells (w.heap.size + 1) (k * 15) u.toList)) := below_setCells (by omega) _ _ _ (un HB1)
      go_roundw
      case rel => exact ⟨k + 1, by omega, by go_num, HR2, HL2, HB2⟩
      case measure => simp [intOf]; omega
    · have hkI : ¬ (k : Int) < 8 := by omega
      have HK : Hid (k = 8) := by show k = 8; omega
      have HL3 : Hid (OwnU wr (w.heap.size + 1) 48 (pA 8)) := by rw [← un HK]; exact HL
      have HPS : Hid (partsA = putAt (pA 8) 15 kilogramU.toList) := rfl
      have HP8 : Hid ((pA 8).size = 120) := pA_size 8
      have HMD : Hid (wr.rangeAt (w.heap.size + 1) 15 gramU.toList) := (un HL3).mid 15 _ pA_gram
      have HTH := hide (fun W ht => thousand_gram W ht)
      have HGS : Hid (gramU.toList.length = 15 ∧ kilogramU.size = 15 ∧ kilogramU.all (·.oneCell') = true) := ⟨rfl, rfl, by kernel_rfl⟩
      have HZ1 := hide partsA_size; have HZ2 := hide partsA_ones
      clear HL
      generalize pA 8 = p8 at *
      obtain ⟨pF, hpF⟩ : ∃ pF, pF = partsA := ⟨_, rfl⟩
      rw [← hpF] at HPS HZ1 HZ2
      have HEQ := hide hpF
      clear hpF
      generalize gramU = gu at *
      generalize kilogramU = ku at *
      go_upto_region 8 with (first
        | (refine wpList_load_mid rfl 30 (.tmp 17) rfl (w.heap.size + 1) 15 rfl gu.toList _ (un HMD) Tryz.underlying30 rfl (by rw [(un HGS).1]; exact info27) ?_)
        | (go_at_call 40; go_must (refine (un HTH _ (un HTA _ (un HB))).mono ?_; rintro e w1 ⟨rfl, hb⟩; have HR1 := hide ((un HR).later hb); have HL1 := hide ((un HL3).later hb); have HB1 : Hid (Below w.heap.size w w1) := (un HB).trans (hb.mono (un HB).size); clear hb))
        | (refine wpList_store_mid rfl 30 (.tmp 20) (.tmp 19) rfl (w.heap.size + 1) 15 ku rfl rfl ((un HL1).there _ _ (by rw [(un HGS).2.1, un HP8]; decide)) (by rw [(un HGS).2.1]; exact info27) (un HGS).2.2 ?_))
      have HL2 : Hid (OwnU (w1.setCells (w.heap.size + 1) 15 ku.toList) (w.heap.size + 1) 48 pF) := by rw [un HPS]; exact OwnU.setCells _ _ _ _ (un HL1)
      have HR2 : Hid (OwnU (w1.setCells (w.heap.size + 1) 15 ku.toList) w.heap.size 48 Tryz.zeroCells48) := OwnU.otherCells (by omega) _ _ _ (un HR1)
      have HB2 : Hid (Below w.heap.size w (w1.setCells (w.heap.size + 1) 15 ku.toList)) := below_setCells (by omega) _ _ _ (un HB1)
      generalize w1.setCells (w.heap.size + 1) 15 ku.toList = w2 at *
      go_wp2_with (first
        | (refine wpList_load_row rfl 48 (.tmp 1) rfl (w.heap.size + 1) rfl 48 pF (0, 0) _ (un HL2) Tryz.underlying48 rfl (by rw [info48, un HZ1]) ?_)
        | (refine storeT 48 120 info48 rfl (.tmp 0) (.tmp 21) rfl w.heap.size Tryz.zeroCells48 pF z48 (un HZ1) rfl rfl (un HR2) (un HZ2) ?_))
      exact bodyPost_ret (v := .agg pF) (res48 Tryz.results20 _ _ w.heap.size _ (un HZ1) rfl ((un HR2).setRow _)) rfl ⟨by rw [un HEQ], below_setRow (un HB2) (Nat.le_refl _) _⟩
end Go.Proofs.YthcbhnggphdflaaGreatDoor

namespace Go.Proofs.YthcbhnggphdflaaGreatDoor
open Go.RowKit
def eD (k : Nat) (n : Int) (j : Nat) : Int := if j = k then n else 0
theorem evIx (ev : Nat → Int) : ∀ k : Nat, k < 8 → ∀ w : World, (Instr.index 25 (.agg #[.int .i64 (ev 0), .int .i64 (ev 1), .int .i64 (ev 2), .int .i64 (ev 3), .int .i64 (ev 4), .int .i64 (ev 5), .int .i64 (ev 6), .int .i64 (ev 7)]) (.int .i64 (k : Int))).run Tryz.prog w = .ok (.int .i64 (ev k)) w
  | 0, _ => fun w => by kernel_rfl
  | 1, _ => fun w => by kernel_rfl
  | 2, _ => fun w => by kernel_rfl
  | 3, _ => fun w => by kernel_rfl
  | 4, _ => fun w => by kernel_rfl
  | 5, _ => fun w => by kernel_rfl
  | 6, _ => fun w => by kernel_rfl
  | 7, _ => fun w => by kernel_rfl
  | _ + 8, h => absurd h (by omega)
end Go.Proofs.YthcbhnggphdflaaGreatDoor

namespace Go.Proofs.YthcbhnggphdflaaGreatDoor
open Go.RowKit
theorem one_pow (n : Nat) : (1 : Rat) ^ n = 1 := by
  induction n with
  | zero => rfl
  | succ n ih => rw [Rat.pow_succ, ih]; decide +kernel
end Go.Proofs.YthcbhnggphdflaaGreatDoor

namespace Go.Proofs.YthcbhnggphdflaaGreatDoor
open Go.RowKit
abbrev z13 : Array Value := #[.string ⟨#[]⟩, .string ⟨#[]⟩, .int .i64 0, .int .i64 0, .int .i64 0, .int .i64 0, .int .i64 0, .int .i64 0, .int .i64 0, .int .i64 0, .int .i64 0, .int .i64 0, .int .i64 0]
def suA (s : Su) : Array Value := #[.string s.nm, .string s.sy, .int .i64 s.tk, .int .i64 s.e0, .int .i64 s.e1, .int .i64 s.e2, .int .i64 s.e3, .int .i64 s.e4, .int .i64 s.e5, .int .i64 s.e6, .int .i64 s.e7, .int .i64 s.n, .int .i64 s.d]
theorem flatS_len : ∀ n, (flatS n).length = n * 13
  | 0 => rfl
  | n + 1 => by rw [flatS_succ, List.length_append, flatS_len n]; simp only [suL, List.length_cons, List.length_nil]; omega
theorem flatS_at : ∀ n k i, k < n → i < 13 → (flatS n)[k * 13 + i]? = (suL (sut k))[i]?
  | 0, _, _, h, _ => absurd h (by omega)
  | n + 1, k, i, h, hi => by
    rw [flatS_succ]
    by_cases hk : k < n
    · rw [List.getElem?_append_left (by rw [flatS_len]; omega)]
      exact flatS_at n k i hk hi
    · have e : k = n := by omega
      subst e
      rw [List.getElem?_append_right (by rw [flatS_len]; omega), flatS_len]
      congr 1
      omega
structure R13 (W : World) (g k : Nat) : Prop where
  c0 : W.cell? ⟨g, k * 13, none⟩ = some (.string (sut k).nm)
  c1 : W.cell? ⟨g, k * 13 + 1, none⟩ = some (.string (sut k).sy)
  c2 : W.cell? ⟨g, k * 13 + 2, none⟩ = some (.int .i64 (sut k).tk)
  c3 : W.cell? ⟨g, k * 13 + 3, none⟩ = some (.int .i64 (sut k).e0)
  c4 : W.cell? ⟨g, k * 13 + 4, none⟩ = some (.int .i64 (sut k).e1)
  c5 : W.cell? ⟨g, k * 13 + 5, none⟩ = some (.int .i64 (sut k).e2)
  c6 : W.cell? ⟨g, k * 13 + 6, none⟩ = some (.int .i64 (sut k).e3)
  c7 : W.cell? ⟨g, k * 13 + 7, none⟩ = some (.int .i64 (sut k).e4)
  c8 : W.cell? ⟨g, k * 13 + 8, none⟩ = some (.int .i64 (sut k).e5)
  c9 : W.cell? ⟨g, k * 13 + 9, none⟩ = some (.int .i64 (sut k).e6)
  c10 : W.cell? ⟨g, k * 13 + 10, none⟩ = some (.int .i64 (sut k).e7)
  c11 : W.cell? ⟨g, k * 13 + 11, none⟩ = some (.int .i64 (sut k).n)
  c12 : W.cell? ⟨g, k * 13 + 12, none⟩ = some (.int .i64 (sut k).d)
theorem R13.later {W V : World} {B g k : Nat} (h : R13 W g k) (hb : Below B W V) (hg : g < B) : R13 V g k :=
  ⟨(hb.cell (p := ⟨g, k * 13, none⟩) hg).trans h.c0, (hb.cell (p := ⟨g, k * 13 + 1, none⟩) hg).trans h.c1, (hb.cell (p := ⟨g, k * 13 + 2, none⟩) hg).trans h.c2, (hb.cell (p := ⟨g, k * 13 + 3, none⟩) hg).trans h.c3, (hb.cell (p := ⟨g, k * 13 + 4, none⟩) hg).trans h.c4, (hb.cell (p := ⟨g, k * 13 + 5, none⟩) hg).trans h.c5, (hb.cell (p := ⟨g, k * 13 + 6, none⟩) hg).trans h.c6, (hb.cell (p := ⟨g, k * 13 + 7, none⟩) hg).trans h.c7, (hb.cell (p := ⟨g, k * 13 + 8, none⟩) hg).trans h.c8, (hb.cell (p := ⟨g, k * 13 + 9, none⟩) hg).trans h.c9, (hb.cell (p := ⟨g, k * 13 + 10, none⟩) hg).trans h.c10, (hb.cell (p := ⟨g, k * 13 + 11, none⟩) hg).trans h.c11, (hb.cell (p := ⟨g, k * 13 + 12, none⟩) hg).trans h.c12⟩
theorem rows13_at {W : World} {B g cap : Nat} (h : W.ownsRow B 57 13 (.slice (some ⟨g, 0, none⟩) 29 cap) 29 (flatS 29)) (k : Nat) (hk : k < 29) : R13 W g k :=
  ⟨(h.cellAt (k * 13) (by omega)).trans (flatS_at 29 k 0 hk (by decide)), (h.cellAt (k * 13 + 1) (by omega)).trans (flatS_at 29 k 1 hk (by decide)), (h.cellAt (k * 13 + 2) (by omega)).trans (flatS_at 29 k 2 hk (by decide)), (h.cellAt (k * 13 + 3) (by omega)).trans (flatS_at 29 k 3 hk (by decide)), (h.cellAt (k * 13 + 4) (by omega)).trans (flatS_at 29 k 4 hk (by decide)), (h.cellAt (k * 13 + 5) (by omega)).trans (flatS_at 29 k 5 hk (by decide)), (h.cellAt (k * 13 + 6) (by omega)).trans (flatS_at 29 k 6 hk (by decide)), (h.cellAt (k * 13 + 7) (by omega)).trans (flatS_at 29 k 7 hk (by decide)), (h.cellAt (k * 13 + 8) (by omega)).trans (flatS_at 29 k 8 hk (by decide)), (h.cellAt (k * 13 + 9) (by omega)).trans (flatS_at 29 k 9 hk (by decide)), (h.cellAt (k * 13 + 10) (by omega)).trans (flatS_at 29 k 10 hk (by decide)), (h.cellAt (k * 13 + 11) (by omega)).trans (flatS_at 29 k 11 hk (by decide)), (h.cellAt (k * 13 + 12) (by omega)).trans (flatS_at 29 k 12 hk (by decide))⟩
set_option maxRecDepth 100000 in
set_option maxHeartbeats 2000000 in
theorem closureS (nm sy : ByteArray) (tk x0 x1 x2 x3 x4 x5 x6 x7 x8 x9 : Int) (s : ByteArray) (b : Nat) (w : World) (hb : w.cell? ⟨b, 0, none⟩ = some (.string s)) (hlt : b < w.heap.size) : Calls Tryz.prog 54 #[.agg #[.string nm, .string sy, .int .i64 tk, .int .i64 x0, .int .i64 x1, .int .i64 x2, .int .i64 x3, .int .i64 x4, .int .i64 x5, .int .i64 x6, .int .i64 x7, .int .i64 x8, .int .i64 x9], .pointer (some ⟨b, 0, none⟩)] w fun r w' => r = .returned (.bool (plainB s nm sy)) ∧ Below w.heap.size w w' := by
  unfold plainB
  go_enter Tryz.func54, Tryz.ntmps54
  go_wp2_with fail
  all_goals
    go_ret
    refine ⟨?_, (Below.refl _ _).alloc (Nat.le_refl _) _⟩
    first | rfl | (simp [*]; done) | (simp_all; done)
def suB (s : ByteArray) (k : Nat) : Bool := plainB s (sut k).nm (sut k).sy
def IsF29 (p : Nat → Bool) (j : Int) : Prop := (∃ k : Nat, k < 29 ∧ j = (k : Int) ∧ p k = true ∧ ∀ i, i < k → p i = false) ∨ (j = -1 ∧ ∀ i, i < 29 → p i = false)
set_option maxRecDepth 100000 in
set_option maxHeartbeats 2000000 in
theorem indexS (s : ByteArray) (g cap b : Nat) (w : World) (hr : ∀ k, k < 29 → R13 w g k) (hg : g < w.heap.size) (hb : w.cell? ⟨b, 0, none⟩ = some (.string s)) (hlt : b < w.heap.size) :
    Calls Tryz.prog 53 #[.slice (some ⟨g, 0, none⟩) 29 cap, .func (.func 54) #[] #[.pointer (some ⟨b, 0, none⟩)]] w fun r w' => ∃ j : Int, r = .returned (.int .i64 j) ∧ IsF29 (suB s) j ∧ Below w.heap.size w w' := by
  have HR := hide hr; have HBC := hide hb
  clear hr hb
  go_enter Tryz.func53, Tryz.ntmps53
  go_wp2_with fail
  go_loopw [8] (fun s8 wr => ∃ (k : Nat), k ≤ 29 ∧ s8 = .int .i64 (k : Int) ∧ Hid (∀ i, i < k → suB s i = false) ∧ Hid (Below w.heap.size w wr)) (fun s8 _ => 29 - (intOf s8).toNat)
  case atStart => exact ⟨0, by omega, rfl, fun i hi => absurd hi (by omega), Below.refl _ _⟩
  case round =>
    obtain ⟨k, hk, rfl, HN, HB⟩ := hrel
    by_cases hk4 : k < 29
    · have hkI : (k : Int) < 29 := by omega
      have hk0 : (0 : Int) ≤ (k : Int) := by omega
      have hrow := (un HR k hk4).later (un HB) hg
      have c0 := hrow.c0; have c1 := hrow.c1; have c2 := hrow.c2; have c3 := hrow.c3; have c4 := hrow.c4; have c5 := hrow.c5; have c6 := hrow.c6; have c7 := hrow.c7; have c8 := hrow.c8; have c9 := hrow.c9; have c10 := hrow.c10; have c11 := hrow.c11; have c12 := hrow.c12
      clear hrow
      have HC : Hid (∀ W, Below wr.heap.size wr W → Calls Tryz.prog 54 #[.agg #[.string (sut k).nm, .string (sut k).sy, .int .i64 (sut k).tk, .int .i64 (sut k).e0, .int .i64 (sut k).e1, .int .i64 (sut k).e2, .int .i64 (sut k).e3, .int .i64 (sut k).e4, .int .i64 (sut k).e5, .int .i64 (sut k).e6, .int .i64 (sut k).e7, .int .i64 (sut k).n, .int .i64 (sut k).d], .pointer (some ⟨b, 0, none⟩)] W fun r w' => r = .returned (.bool (suB s k)) ∧ Below W.heap.size W w') := fun W hW =>
        closureS _ _ _ _ _ _ _ _ _ _ _ _ _ s b W (((un HB).trans (hW.mono (un HB).size)).cell (p := ⟨b, 0, none⟩) hlt |>.trans (un HBC)) (Nat.lt_of_lt_of_le hlt (((un HB).trans (hW.mono (un HB).size)).size))
      have HNK := hide (fun (e : suB s k = false) => none_succ (un HN) e)
      have HYK := hide (fun (e : suB s k = true) => (Or.inl ⟨k, hk4, rfl, e, un HN⟩ : IsF29 (suB s) (k : Int)))
      generalize (sut k).nm = nm at *
      generalize (sut k).sy = sy at *
      generalize (sut k).tk = tk at *
      generalize (sut k).e0 = x0 at *
      generalize (sut k).e1 = x1 at *
      generalize (sut k).e2 = x2 at *
      generalize (sut k).e3 = x3 at *
      generalize (sut k).e4 = x4 at *
      generalize (sut k).e5 = x5 at *
      generalize (sut k).e6 = x6 at *
      generalize (sut k).e7 = x7 at *
      generalize (sut k).n = x8 at *
      generalize (sut k).d = x9 at *
      by_cases hB : suB s k = true
      · have HJ := hide (un HYK hB)
        rw [hB] at HC
        clear HNK HYK hB
        go_wp2_with (go_at_call 54; go_must (refine (un HC _ (Below.refl _ _)).mono ?_; rintro e wt ⟨rfl, hbt⟩; have HBT := hide hbt; clear hbt))
        go_ret
        exact ⟨_, rfl, un HJ, (un HB).trans ((un HBT).mono (un HB).size)⟩
      · have hB' : suB s k = false := by simpa using hB
        have HJ := hide (un HNK hB')
        rw [hB'] at HC
        clear HNK HYK hB hB'
        go_wp2_with (go_at_call 54; go_must (refine (un HC _ (Below.refl _ _)).mono ?_; rintro e wt ⟨rfl, hbt⟩; have HBT := hide hbt; clear hbt))
        go_roundw
        case rel => exact ⟨k + 1, by omega, by go_num, HJ, (un HB).trans ((un HBT).mono (un HB).size)⟩
        case measure => simp [intOf]; omega
    · have hkI : ¬ (k : Int) < 29 := by omega
      go_wp2_with fail
      go_ret
      exact ⟨-1, rfl, Or.inr ⟨rfl, fun i hi => un HN i (by omega)⟩, un HB⟩
theorem first29 {p : Nat → Bool} {i j : Int} (h1 : IsF29 p i) (h2 : IsF29 p j) : i = j := by
  rcases h1 with ⟨a, ha, rfl, pa, qa⟩ | ⟨rfl, na⟩ <;> rcases h2 with ⟨c, hc, rfl, pc, qc⟩ | ⟨rfl, nc⟩
  · rcases Nat.lt_trichotomy a c with h | h | h
    · rw [qc a h] at pa; cases pa
    · rw [h]
    · rw [qa c h] at pc; cases pc
  · rw [nc a ha] at pa; cases pa
  · rw [na c hc] at pc; cases pc
  · rfl
/-- What si.find answers: the first unit that has the word. -/
def FindS (p : Nat → Bool) (v : Value) : Prop := (∃ k : Nat, k < 29 ∧ IsF29 p (k : Int) ∧ v = .tuple #[.agg (suA (sut k)), .bool true]) ∨ (IsF29 p (-1) ∧ v = .tuple #[.agg z13, .bool false])
theorem info57s : (Tryz.prog.info? 57).map (·.size) = some 13 := by kernel_rfl
theorem res57b {fn : Func} {p u : Tmp} (h : fn.results = #[.cell p 57, .tmp u]) (tmps : Array Value) (w : World) (g : Nat) (vs : Array Value) (hl : vs.size = 13) (hp : tmps.getD p undef = .pointer (some ⟨g, 0, none⟩)) (ho : OwnU w g 57 vs) :
    (results fn tmps).run Tryz.prog w = .ok (.tuple #[.agg vs, tmps.getD u undef]) w := by
  rw [results_cell_tmp h, hp]
  simp only [asAddr, Sem.run_pure, Result.andThen_ok]
  rw [run_loadVar_row w g 57 57 vs (0, 0) _ ho Tryz.underlying57 rfl (by rw [info57s, hl])]
  rfl
set_option maxRecDepth 100000 in
set_option maxHeartbeats 4000000 in
theorem findS_any (s : ByteArray) (w : World) : Calls Tryz.prog 27 #[.string s] w fun r w' => ∃ v, r = .returned v ∧ FindS (suB s) v ∧ Below w.heap.size w w' := by
  obtain ⟨V, hV⟩ : ∃ V, V = (w.alloc (.cells #[.string s] 9)).alloc (.cells z13 57) := ⟨_, rfl⟩
  have HBX : Hid (V.cell? ⟨w.heap.size, 0, none⟩ = some (.string s) ∧ w.heap.size < V.heap.size) := by rw [hV]; exact ⟨by simp [go_sem], by simp; omega⟩
  have HR : Hid (OwnU V (w.heap.size + 1) 57 z13) := by rw [hV]; have h := OwnU.new (w.alloc (.cells #[.string s] 9)) z13 57; rw [Dm.size_alloc] at h; exact h
  have HB : Hid (Below w.heap.size w V) := by rw [hV]; exact ((Below.refl _ _).alloc (Nat.le_refl _) _).alloc (by simp) _
  have HV := hide hV
  clear hV
  go_enter Tryz.func27, Tryz.ntmps27
  go_upto_region 1 with fail
  rw [← un HV]
  clear HV
  go_upto_region 2 with (go_at_call 21; go_must (refine (units_si _).mono ?_; rintro e W1 ⟨v, rfl, ho, hb⟩; have HOW := hide ho; have HW := hide hb; clear ho hb))
  obtain ⟨gR, cap, rfl⟩ := Joins.ownsRow_form (un HOW) (by decide)
  have HG : Hid (gR < W1.heap.size) := ((un HOW).lt gR rfl).2
  have HRW : Hid (∀ k, k < 29 → R13 W1 gR k) := fun k hk => rows13_at (un HOW) k hk
  have HBX1 : Hid (W1.cell? ⟨w.heap.size, 0, none⟩ = some (.string s) ∧ w.heap.size < W1.heap.size) := ⟨((un HW).cell (p := ⟨w.heap.size, 0, none⟩) (un HBX).2).trans (un HBX).1, Nat.lt_of_lt_of_le (un HBX).2 (un HW).size⟩
  have HIX := hide (indexS s gR cap w.heap.size W1 (un HRW) (un HG) (un HBX1).1 (un HBX1).2)
  have HR1 := hide ((un HR).later (un HW)); have HB1 := hide ((un HB).trans ((un HW).mono (un HB).size))
  clear HW HBX HBX1 HR HB HOW
  go_upto_region 3 with (go_at_call 53; go_must (refine (un HIX).mono ?_; rintro e W2 ⟨j, rfl, hj, hb⟩; have HJ := hide hj; have HB2 := hide ((un HB1).trans (hb.mono (un HB1).size)); have HR2 := hide ((un HR1).later hb); have HRW2 := hide (fun k hk => (un HRW k hk).later hb (un HG)); clear hj hb))
  clear HIX HRW HG HR1 HB1
  rcases un HJ with ⟨k, hk, rfl, hk1, hk2⟩ | ⟨rfl, hn⟩
  · have hk0 : (0 : Int) ≤ (k : Int) := by omega
    have hkI : (k : Int) < 29 := by omega
    have hkn : ¬ (k : Int) < 0 := by omega
    have hrow := un HRW2 k hk
    have c0 := hrow.c0; have c1 := hrow.c1; have c2 := hrow.c2; have c3 := hrow.c3; have c4 := hrow.c4; have c5 := hrow.c5; have c6 := hrow.c6; have c7 := hrow.c7; have c8 := hrow.c8; have c9 := hrow.c9; have c10 := hrow.c10; have c11 := hrow.c11; have c12 := hrow.c12
    have HOUT : Hid (FindS (suB s) (.tuple #[.agg (suA (sut k)), .bool true])) := Or.inl ⟨k, hk, Or.inl ⟨k, hk, rfl, hk1, hk2⟩, rfl⟩
    unfold suA at HOUT
    clear hrow hk1 hk2 HRW2 HJ
    generalize (sut k).nm = nm at *
    generalize (sut k).sy = sy at *
    generalize (sut k).tk = tk at *
    generalize (sut k).e0 = x0 at *
    generalize (sut k).e1 = x1 at *
    generalize (sut k).e2 = x2 at *
    generalize (sut k).e3 = x3 at *
    generalize (sut k).e4 = x4 at *
    generalize (sut k).e5 = x5 at *
    generalize (sut k).e6 = x6 at *
    generalize (sut k).e7 = x7 at *
    generalize (sut k).n = x8 at *
    generalize (sut k).d = x9 at *
    go_wp2_with (refine storeT 57 13 info57s rfl (.tmp 2) (.tmp 16) rfl (w.heap.size + 1) z13 #[.string nm, .string sy, .int .i64 tk, .int .i64 x0, .int .i64 x1, .int .i64 x2, .int .i64 x3, .int .i64 x4, .int .i64 x5, .int .i64 x6, .int .i64 x7, .int .i64 x8, .int .i64 x9] rfl rfl rfl rfl (un HR2) (by kernel_rfl) ?_)
    exact bodyPost_ret (v := .tuple #[.agg #[.string nm, .string sy, .int .i64 tk, .int .i64 x0, .int .i64 x1, .int .i64 x2, .int .i64 x3, .int .i64 x4, .int .i64 x5, .int .i64 x6, .int .i64 x7, .int .i64 x8, .int .i64 x9], .bool true]) (res57b Tryz.results27 _ _ (w.heap.size + 1) _ rfl rfl ((un HR2).setRow _)) rfl ⟨_, rfl, un HOUT, below_setRow (un HB2) (by omega) _⟩
  · have hn1 : ((-1 : Int) < 0) := by decide
    go_wp2_with (refine storeT 57 13 info57s rfl (.tmp 2) (.tmp 12) rfl (w.heap.size + 1) z13 z13 rfl rfl rfl rfl (un HR2) (by kernel_rfl) ?_)
    exact bodyPost_ret (v := .tuple #[.agg z13, .bool false]) (res57b Tryz.results27 _ _ (w.heap.size + 1) _ rfl rfl ((un HR2).setRow _)) rfl ⟨_, rfl, Or.inr ⟨Or.inr ⟨rfl, hn⟩, rfl⟩, below_setRow (un HB2) (by omega) _⟩
end Go.Proofs.YthcbhnggphdflaaGreatDoor

namespace Go.Proofs.YthcbhnggphdflaaGreatDoor
open Go.RowKit
def evF (s : Su) : Nat → Int
  | 0 => s.e0
  | 1 => s.e1
  | 2 => s.e2
  | 3 => s.e3
  | 4 => s.e4
  | 5 => s.e5
  | 6 => s.e6
  | _ => s.e7
def ruA (s : Su) (fn fd : ByteArray) : Array Value := #[.string s.nm, .string s.sy, .int .i64 s.e0, .int .i64 s.e1, .int .i64 s.e2, .int .i64 s.e3, .int .i64 s.e4, .int .i64 s.e5, .int .i64 s.e6, .int .i64 s.e7, .string fn, .string fd, .string ⟨#[48]⟩, .string ⟨#[49]⟩, .int .i64 s.tk]
def sfn : Nat → ByteArray
  | 21 => ⟨#[54, 48]⟩
  | 22 => ⟨#[51, 54, 48, 48]⟩
  | 23 => ⟨#[56, 54, 52, 48, 48]⟩
  | 24 => ⟨#[49]⟩
  | 25 => ⟨#[49, 48, 48, 48]⟩
  | 26 => ⟨#[49, 48, 48, 48, 48, 48]⟩
  | 27 => ⟨#[49, 48, 48, 48, 48]⟩
  | 28 => ⟨#[56]⟩
  | _ => ⟨#[49]⟩
def sfd : Nat → ByteArray
  | 24 => ⟨#[49, 48, 48, 48]⟩
  | _ => ⟨#[49]⟩
def ruT (k : Nat) : Array Value := ruA (sut k) (sfn k) (sfd k)
theorem ruT_size (k : Nat) : (ruT k).size = 15 := rfl
/-- What si.Find answers. -/
def FindSi (p : Nat → Bool) (v : Value) : Prop := (∃ k : Nat, k < 29 ∧ IsF29 p (k : Int) ∧ v = .tuple #[.agg (ruT k), .bool true]) ∨ (IsF29 p (-1) ∧ v = .tuple #[.agg z15, .bool false])
theorem FindSi.det {p : Nat → Bool} {v u : Value} (h1 : FindSi p v) (h2 : FindSi p u) : v = u := by
  rcases h1 with ⟨a, ha, fa, rfl⟩ | ⟨fa, rfl⟩ <;> rcases h2 with ⟨c, hc, fc, rfl⟩ | ⟨fc, rfl⟩
  · have := first29 fa fc
    have e : a = c := by omega
    rw [e]
  · have := first29 fa fc; omega
  · have := first29 fa fc; omega
  · rfl
theorem first_or (p : Nat → Bool) : ∀ n : Nat, (∃ k, k < n ∧ p k = true ∧ ∀ i, i < k → p i = false) ∨ ∀ i, i < n → p i = false
  | 0 => Or.inr fun i h => absurd h (by omega)
  | n + 1 => by
    rcases first_or p n with ⟨k, hk, h1, h2⟩ | h
    · exact Or.inl ⟨k, by omega, h1, h2⟩
    · cases e : p n with
      | true => exact Or.inl ⟨n, by omega, e, h⟩
      | false => exact Or.inr (none_succ h e)
theorem first_ex (p : Nat → Bool) : (∃ k : Nat, k < 29 ∧ IsF29 p (k : Int)) ∨ IsF29 p (-1) := by
  rcases first_or p 29 with ⟨k, hk, h1, h2⟩ | h
  · exact Or.inl ⟨k, hk, Or.inl ⟨k, hk, rfl, h1, h2⟩⟩
  · exact Or.inr (Or.inr ⟨rfl, h⟩)
theorem FindS.yes {p : Nat → Bool} {v : Value} {k : Nat} (h : FindS p v) (hf : IsF29 p (k : Int)) : v = .tuple #[.agg (suA (sut k)), .bool true] := by
  rcases h with ⟨a, ha, fa, rfl⟩ | ⟨fa, rfl⟩
  · have := first29 fa hf
    have e : a = k := by omega
    rw [e]
  · have := first29 fa hf; omega
theorem FindS.no {p : Nat → Bool} {v : Value} (h : FindS p v) (hf : IsF29 p (-1)) : v = .tuple #[.agg z13, .bool false] := by
  rcases h with ⟨a, ha, fa, rfl⟩ | ⟨fa, rfl⟩
  · have := first29 fa hf; omega
  · rfl
theorem findS_yes (s : ByteArray) (k : Nat) (hf : IsF29 (suB s) (k : Int)) (w : World) : Calls Tryz.prog 27 #[.string s] w fun r w' => r = .returned (.tuple #[.agg (suA (sut k)), .bool true]) ∧ Below w.heap.size w w' :=
  (findS_any s w).mono (by rintro r w' ⟨v, rfl, hv, hb⟩; exact ⟨by rw [hv.yes hf], hb⟩)
theorem findS_no (s : ByteArray) (hf : IsF29 (suB s) (-1)) (w : World) : Calls Tryz.prog 27 #[.string s] w fun r w' => r = .returned (.tuple #[.agg z13, .bool false]) ∧ Below w.heap.size w w' :=
  (findS_any s w).mono (by rintro r w' ⟨v, rfl, hv, hb⟩; exact ⟨by rw [hv.no hf], hb⟩)
end Go.Proofs.YthcbhnggphdflaaGreatDoor

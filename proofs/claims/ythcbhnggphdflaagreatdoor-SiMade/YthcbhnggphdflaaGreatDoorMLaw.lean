/- SiMade: what a unit is made of. -/
import Derived.Test.YthcbhnggphdflaaGreatDoorRefM
import Derived.Test.YthcbhnggphdflaaGreatDoorUnit2
import Derived.ChangeKeysEq
import Derived.Laws.StructEq
import Derived.Deep.QuietTactic
import Derived.BigQuiet
namespace Go.Proofs.YthcbhnggphdflaaGreatDoor
open Go.RowKit
theorem fieldsM : ∃ f0 f1, (Tryz.prog.fieldsOf 40).toList = [f0, f1] ∧ f0.type = 9 ∧ f0.offset = 0 ∧ f0.name ≠ "_" ∧ f1.type = 3 ∧ f1.offset = 1 ∧ f1.name ≠ "_" := by
  unfold Program.fieldsOf
  rw [Tryz.underlying40]
  exact ⟨_, _, rfl, rfl, rfl, by decide +kernel, rfl, rfl, by decide +kernel⟩
theorem eqM (s : ByteArray) (e : Int) (w : World) : (Op.equalIn 10000 40 (.agg #[.string s, .int .i64 e]) (.agg #[.string s, .int .i64 e])).run Tryz.prog w = .ok true w := by
  rw [show (10000 : Nat) = 9999 + 1 from rfl, run_equalIn_struct w 9999 40 _ _ (by kernel_rfl) (by kernel_rfl)]
  obtain ⟨f0, f1, hf, t0, o0, n0, t1, o1, n1⟩ := fieldsM
  rw [hf]
  have p0 : ∀ w : World, (part 9 #[.string s, .int .i64 e] 0).run Tryz.prog w = .ok (.string s) w := fun _ => by kernel_rfl
  have p1 : ∀ w : World, (part 3 #[.string s, .int .i64 e] 1).run Tryz.prog w = .ok (.int .i64 e) w := fun _ => by kernel_rfl
  have q := fun w a b => run_equalIn_string (P := Tryz.prog) w 9998 9 a b Tryz.underlying9
  have q3 := fun w a b => run_equalIn_int (P := Tryz.prog) w 9998 3 .i64 .i64 a b Tryz.underlying3
  simp only [Op.eqFields, n0, n1, t0, t1, o0, o1, Sem.run_bind, p0, p1, Result.andThen_ok, q, q3, Sem.run_ite, Sem.run_pure, ne_eq, not_false_eq_true, if_true]
  simp
theorem neqM (s : ByteArray) (e : Int) (w : World) : (binOp .neq 40 (.agg #[.string s, .int .i64 e]) (.agg #[.string s, .int .i64 e])).run Tryz.prog w = .ok (.bool false) w := by
  rw [run_neq_struct, eqM]
  rfl
def sAt (L : List Value) (i : Nat) : ByteArray := match L[i * 2]? with | some (.string s) => s | _ => ⟨#[]⟩
def eAt (L : List Value) (i : Nat) : Int := match L[i * 2 + 1]? with | some (.int _ e) => e | _ => 0
def PairsL (L : List Value) (c : Nat) : Prop := ∀ i, i < c → L[i * 2]? = some (.string (sAt L i)) ∧ L[i * 2 + 1]? = some (.int .i64 (eAt L i))
theorem pair_of {L : List Value} {i : Nat} {s : ByteArray} {e : Int} (h1 : L[i * 2]? = some (.string s)) (h2 : L[i * 2 + 1]? = some (.int .i64 e)) : L[i * 2]? = some (.string (sAt L i)) ∧ L[i * 2 + 1]? = some (.int .i64 (eAt L i)) := by
  unfold sAt eAt
  rw [h1, h2]
  exact ⟨rfl, rfl⟩
theorem mkL_pairs (ev : Nat → Int) : ∀ k, (mkL ev k).length = cntM ev k * 2 ∧ PairsL (mkL ev k) (cntM ev k)
  | 0 => ⟨rfl, fun i hi => absurd hi (by unfold cntM; omega)⟩
  | k + 1 => by
    obtain ⟨h1, h2⟩ := mkL_pairs ev k
    by_cases h0 : ev k = 0
    · rw [(mkL_no ev k h0).1, (mkL_no ev k h0).2]
      exact ⟨h1, h2⟩
    · rw [(mkL_yes ev k h0).1, (mkL_yes ev k h0).2]
      refine ⟨by simp [h1]; omega, fun i hi => ?_⟩
      by_cases hlt : i < cntM ev k
      · obtain ⟨a1, a2⟩ := h2 i hlt
        exact pair_of (by rw [List.getElem?_append_left (by omega)]; exact a1) (by rw [List.getElem?_append_left (by omega)]; exact a2)
      · obtain rfl : i = cntM ev k := by omega
        exact pair_of (s := ksy k) (e := ev k) (by rw [List.getElem?_append_right (by omega), h1, Nat.sub_self]; rfl) (by rw [List.getElem?_append_right (by omega), h1, show cntM ev k * 2 + 1 - cntM ev k * 2 = 1 by omega]; rfl)
/-- The pairs from the i-th on stand at block g. -/
def RowC (W : World) (g i c : Nat) (sf : Nat → ByteArray) (ef : Nat → Int) : Prop := ∀ j, i ≤ j → j < c → W.cell? ⟨g, j * 2, none⟩ = some (.string (sf j)) ∧ W.cell? ⟨g, j * 2 + 1, none⟩ = some (.int .i64 (ef j))
theorem RowC.later {W V : World} {B g i c : Nat} {sf : Nat → ByteArray} {ef : Nat → Int} (h : RowC W g i c sf ef) (hb : Below B W V) (hg : g < B) : RowC V g i c sf ef := fun j h1 h2 => ⟨(hb.cell (p := ⟨g, j * 2, none⟩) hg).trans (h j h1 h2).1, (hb.cell (p := ⟨g, j * 2 + 1, none⟩) hg).trans (h j h1 h2).2⟩
theorem RowC.set {W : World} {g g1 i i1 c : Nat} {sf : Nat → ByteArray} {ef : Nat → Int} (h : RowC W g i c sf ef) (x : Value) (hg : g = g1 → i1 < i) : RowC (W.setCell ⟨g1, i1 * 2, none⟩ x) g i c sf ef := fun j h1 h2 => by
  have n1 : (⟨g1, i1 * 2, none⟩ : Addr) ≠ ⟨g, j * 2, none⟩ := fun e => by have e1 := congrArg Addr.block e; have e2 := congrArg Addr.off e; simp at e1 e2; have := hg e1.symm; omega
  have n2 : (⟨g1, i1 * 2, none⟩ : Addr) ≠ ⟨g, j * 2 + 1, none⟩ := fun e => by have e2 := congrArg Addr.off e; simp at e2; omega
  exact ⟨(World.cell?_setCell_other _ _ _ _ n1).trans (h j h1 h2).1, (World.cell?_setCell_other _ _ _ _ n2).trans (h j h1 h2).2⟩
def NF (W : World) (g : Nat) : Prop := ∃ vs, OwnU W g 40 vs
theorem NF.later {W V : World} {g : Nat} (h : NF W g) (hb : Below W.heap.size W V) : NF V g := let ⟨_, h⟩ := h; ⟨_, h.later hb⟩
theorem NF.set {W : World} {g : Nat} (h : NF W g) (i : Nat) (v : Value) : NF (W.setCell ⟨g, i, none⟩ v) g := let ⟨_, h⟩ := h; ⟨_, h.set i v⟩
theorem NF.f {W : World} {g : Nat} (h : NF W g) (i : Nat) : W.frozen? ⟨g, i, none⟩ = false := by
  obtain ⟨_, h⟩ := h
  unfold OwnU at h
  simp [World.frozen?, h]
theorem row_of {W : World} {B n : Nat} {v : Value} {L : List Value} (h : W.ownsRow B 40 2 v n L) (hp : PairsL L n) : ∃ a cap, v = .slice a n cap ∧ (0 < n → ∃ g, a = some ⟨g, 0, none⟩ ∧ B ≤ g ∧ g < W.heap.size ∧ NF W g ∧ RowC W g 0 n (sAt L) (eAt L)) := by
  rcases h.2 with ⟨rfl, rfl⟩ | ⟨g, cap, cur, rfl, hb, hh, hn, _, hz, ht⟩
  · exact ⟨_, _, rfl, fun h => absurd h (by omega)⟩
  · refine ⟨_, _, rfl, fun _ => ⟨g, rfl, hb, (Array.getElem?_eq_some_iff.1 hh).1, ⟨_, hh⟩, fun j _ hj => ?_⟩⟩
    have ho : OwnU W g 40 cur := hh
    have hc : ∀ q v, q < n * 2 → L[q]? = some v → cur[q]? = some v := fun q v hq e => by
      rw [← ht, List.getElem?_take_of_lt hq] at e
      simpa using e
    obtain ⟨a1, a2⟩ := hp j hj
    exact ⟨ho.ub.c _ _ (hc _ _ (by omega) a1), ho.ub.c _ _ (hc _ _ (by omega) a2)⟩
def Mk (f : Nat) (s : ByteArray) (W : World) (c : Nat) (ok : Bool) (sf : Nat → ByteArray) (ef : Nat → Int) : Prop := Calls Tryz.prog f #[.string s] W fun r w' => ∃ a cap, r = .returned (.tuple #[.slice a c cap, .bool ok]) ∧ (0 < c → ∃ g, a = some ⟨g, 0, none⟩ ∧ W.heap.size ≤ g ∧ g < w'.heap.size ∧ NF w' g ∧ RowC w' g 0 c sf ef) ∧ Below W.heap.size W w'
def Two (w wr : World) (a1 a2 : Option Addr) (i c : Nat) (sf : Nat → ByteArray) (ef : Nat → Int) : Prop := 0 < c → ∃ g1 g2, a1 = some ⟨g1, 0, none⟩ ∧ a2 = some ⟨g2, 0, none⟩ ∧ w.heap.size ≤ g1 ∧ w.heap.size ≤ g2 ∧ g1 ≠ g2 ∧ g1 < wr.heap.size ∧ g2 < wr.heap.size ∧ NF wr g1 ∧ RowC wr g1 i c sf ef ∧ RowC wr g2 0 c sf ef
set_option maxRecDepth 100000 in
set_option maxHeartbeats 8000000 in
theorem law_made_walk (s : ByteArray) (w : World) (c : Nat) (hc : c ≤ 8) (ok : Bool) (sf : Nat → ByteArray) (ef : Nat → Int)
    (h13 : ∀ W, Below w.heap.size w W → Mk 13 s W c ok sf ef) (h14 : ∀ W, Below w.heap.size w W → Mk 14 s W c ok sf ef)
    (hV : ∀ W, Below w.heap.size w W → Calls Tryz.prog 13 #[.string ⟨#[86]⟩] W fun r w' => ∃ a cap, r = .returned (.tuple #[.slice a 4 cap, .bool true]) ∧ Below W.heap.size W w') :
    Calls Tryz.prog 5 #[.string s] w fun r w' => r = .returned (.bool true) ∧ Below w.heap.size w w' := by
  have H13 := hide h13; have H14 := hide h14; have HVV := hide hV
  have HB0 : Hid (Below w.heap.size w w) := Below.refl _ _
  clear h13 h14 hV
  have hcI : (c : Int) ≤ 8 := by omega
  go_enter Tryz.func5, Tryz.ntmps5
  go_upto_region 2 with (go_at_call 13; go_must (refine (un H13 _ (un HB0)).mono ?_; rintro e W1 ⟨a1, cap1, rfl, hr1, hb⟩; have HR1 := hide hr1; have HB1 := hide hb; clear hr1 hb))
  go_upto_region 3 with (go_at_call 14; go_must (refine (un H14 _ (un HB1)).mono ?_; rintro e W2 ⟨a2, cap2, rfl, hr2, hb⟩; have HT : Hid (Two w W2 a1 a2 0 c sf ef) := (fun h0 => by obtain ⟨g1, e1, b1, l1, n1, r1⟩ := un HR1 h0; obtain ⟨g2, e2, b2, l2, _, r2⟩ := hr2 h0; exact ⟨g1, g2, e1, e2, b1, Nat.le_trans (un HB1).size b2, by omega, Nat.lt_of_lt_of_le l1 hb.size, l2, n1.later hb, r1.later hb l1, r2⟩); have HB2 : Hid (Below w.heap.size w W2) := (un HB1).trans (hb.mono (un HB1).size); clear hr2 hb HR1 HB1))
  go_upto_region 6 with fail
  go_loopw [35] (fun s35 wr => ∃ (i : Nat), i ≤ c ∧ s35 = .int .i64 (i : Int) ∧ Hid (Two w wr a1 a2 i c sf ef) ∧ Hid (Below w.heap.size w wr)) (fun s35 _ => c - (intOf s35).toNat)
  case atStart => exact ⟨0, by omega, rfl, HT, HB2⟩
  case round =>
    clear HT HB2
    obtain ⟨i, hi, rfl, HT, HB⟩ := hrel
    by_cases hlt : i < c
    · have hiI : (i : Int) < (c : Int) := by omega
      have hi0 : (0 : Int) ≤ (i : Int) := by omega
      obtain ⟨g1, g2, rfl, rfl, b1, b2, hne, l1, l2, n1, r1, r2⟩ := un HT (by omega)
      have HR1 := hide r1; have HR2 := hide r2; have HG := hide (And.intro b1 (And.intro b2 (And.intro hne (And.intro l1 (And.intro l2 n1)))))
      obtain ⟨p1, p2⟩ := r1 i (Nat.le_refl _) hlt
      obtain ⟨q1, q2⟩ := r2 i (Nat.zero_le _) hlt
      have hnq := neqM (sf i) (ef i)
      have hfz := n1.f (i * 2)
      clear r1 r2 b1 b2 hne l1 l2 n1 HT
      go_upto_region 8 with fail
      go_quiet (fail)
      have HU : Hid (Two w ((wr.drewN nq).setCell ⟨g1, i * 2, none⟩ (.string ⟨#[119, 114, 105, 116, 116, 101, 110, 32, 111, 118, 101, 114]⟩)) (some ⟨g1, 0, none⟩) (some ⟨g2, 0, none⟩) (i + 1) c sf ef) := (fun _ => by
        obtain ⟨b1, b2, hne, l1, l2, n1⟩ := un HG
        have hd : Below wr.heap.size wr (wr.drewN nq) := below_drewN (Below.refl _ _) _
        have hz : ((wr.drewN nq).setCell ⟨g1, i * 2, none⟩ (.string ⟨#[119, 114, 105, 116, 116, 101, 110, 32, 111, 118, 101, 114]⟩)).heap.size = (wr.drewN nq).heap.size := by simp [World.setCell]
        exact ⟨g1, g2, rfl, rfl, b1, b2, hne, by rw [hz]; exact Nat.lt_of_lt_of_le l1 hd.size, by rw [hz]; exact Nat.lt_of_lt_of_le l2 hd.size, (n1.later hd).set _ _, RowC.set (fun j h1 h2 => ((un HR1).later hd l1) j (by omega) h2) _ (fun _ => by omega), ((un HR2).later hd l2).set _ (fun h => absurd h.symm hne)⟩)
      have HB3 : Hid (Below w.heap.size w ((wr.drewN nq).setCell ⟨g1, i * 2, none⟩ (.string ⟨#[119, 114, 105, 116, 116, 101, 110, 32, 111, 118, 101, 114]⟩))) := (below_drewN (un HB) _).setCell (un HG).1 _
      clear HR1 HR2 HG HB
      go_wp2_with fail
      go_roundw
      case rel => exact ⟨i + 1, by omega, by go_num, HU, HB3⟩
      case measure => simp [intOf]; omega
    · have hiI : ¬ (i : Int) < (c : Int) := by omega
      go_upto_region 14 with (go_at_call 13; go_must (refine (un H13 _ (un HB)).mono ?_; rintro e W3 ⟨a3, cap3, rfl, hr3, hb⟩; have HT3 : Hid (Two w W3 a3 a2 0 c sf ef) := (fun h0 => by obtain ⟨g1, g2, _, e2, b1, b2, hne, l1, l2, _, r1, r2⟩ := un HT h0; obtain ⟨g3, e3, b3, l3, n3, r3⟩ := hr3 h0; exact ⟨g3, g2, e3, e2, Nat.le_trans (un HB).size b3, b2, by omega, l3, Nat.lt_of_lt_of_le l2 hb.size, n3, r3, r2.later hb l2⟩); have HB3 : Hid (Below w.heap.size w W3) := (un HB).trans (hb.mono (un HB).size); clear hr3 hb HT HB))
      go_loopw [59] (fun s59 wq => ∃ (i : Nat), i ≤ c ∧ s59 = .int .i64 (i : Int) ∧ Hid (Two w wq a3 a2 0 c sf ef) ∧ Hid (Below w.heap.size w wq)) (fun s59 _ => c - (intOf s59).toNat)
      case atStart => exact ⟨0, by omega, rfl, HT3, HB3⟩
      case round =>
        clear HT3 HB3 hiI
        clear hi
        obtain ⟨i, hi, rfl, HT, HB⟩ := hrel
        by_cases hlt : i < c
        · have hiI : (i : Int) < (c : Int) := by omega
          have hi0 : (0 : Int) ≤ (i : Int) := by omega
          have hge : decide ((c : Int) ≤ (i : Int)) = false := by rw [decide_eq_false_iff_not]; omega
          obtain ⟨g1, g2, rfl, rfl, b1, b2, hne, l1, l2, n1, r1, r2⟩ := un HT (by omega)
          obtain ⟨p1, p2⟩ := r1 i (Nat.zero_le _) hlt
          obtain ⟨q1, q2⟩ := r2 i (Nat.zero_le _) hlt
          have hnq := neqM (sf i) (ef i)
          have HR1 := hide r1; have HR2 := hide r2; have HG := hide (And.intro b1 (And.intro b2 (And.intro hne (And.intro l1 (And.intro l2 n1)))))
          clear r1 r2 b1 b2 hne l1 l2 n1 HT
          go_upto_region 16 with fail
          go_quiet (fail)
          have HU : Hid (Two w (wr.drewN nq) (some ⟨g1, 0, none⟩) (some ⟨g2, 0, none⟩) 0 c sf ef) := (fun _ => by
            obtain ⟨b1, b2, hne, l1, l2, n1⟩ := un HG
            have hd : Below wr.heap.size wr (wr.drewN nq) := below_drewN (Below.refl _ _) _
            exact ⟨g1, g2, rfl, rfl, b1, b2, hne, Nat.lt_of_lt_of_le l1 hd.size, Nat.lt_of_lt_of_le l2 hd.size, n1.later hd, (un HR1).later hd l1, (un HR2).later hd l2⟩)
          have HB3 : Hid (Below w.heap.size w (wr.drewN nq)) := below_drewN (un HB) _
          clear HR1 HR2 HG HB
          go_wp2_with fail
          go_roundw
          case rel => exact ⟨i + 1, by omega, by go_num, HU, HB3⟩
          case measure => simp [intOf]; omega
        · have hiI : ¬ (i : Int) < (c : Int) := by omega
          go_wp2_with (go_at_call 13; go_must (refine (un HVV _ (un HB)).mono ?_; rintro e W4 ⟨a4, cap4, rfl, hb⟩; have HB4 : Hid (Below w.heap.size w W4) := (un HB).trans (hb.mono (un HB).size); clear hb))
          go_ret
          exact ⟨rfl, un HB4⟩
theorem IsF29.nat {p : Nat → Bool} {i k : Nat} (h1 : IsF29 p (i : Int)) (h2 : IsF29 p (k : Int)) : i = k := by
  have := first29 h1 h2
  omega
theorem made_shape13 (s : ByteArray) (k : Nat) (hf : IsF29 (suB s) (k : Int)) (W : World) (htab : Tab W) : Mk 13 s W (cntM (evF (sut k)) 8) true (sAt (mkL (evF (sut k)) 8)) (eAt (mkL (evF (sut k)) 8)) :=
  (siMade_yes s k hf W htab).mono (by
    rintro r w' ⟨v, rfl, ho, hb⟩
    obtain ⟨a, cap, rfl, h⟩ := row_of ho (mkL_pairs _ 8).2
    exact ⟨a, cap, rfl, h, hb⟩)
theorem made_shape14 (s : ByteArray) (k : Nat) (hf : IsF29 (suB s) (k : Int)) (W : World) : Mk 14 s W (cntM (evF (sut k)) 8) true (sAt (mkL (evF (sut k)) 8)) (eAt (mkL (evF (sut k)) 8)) :=
  (refMade s W).mono (by
    rintro r w' ⟨v, rfl, hm, hb⟩
    rcases hm with ⟨j, hj, hf', x, rfl, ho⟩ | ⟨hf', rfl⟩
    · obtain rfl := hf'.nat hf
      obtain ⟨a, cap, rfl, h⟩ := row_of ho (mkL_pairs _ 8).2
      exact ⟨a, cap, rfl, h, hb⟩
    · exact absurd (first29 hf' hf) (by omega))
theorem none_shape13 (s : ByteArray) (hf : IsF29 (suB s) (-1)) (W : World) : Mk 13 s W 0 false (fun _ => ⟨#[]⟩) (fun _ => 0) :=
  (siMade_none s W hf).mono (by rintro r w' ⟨rfl, hb⟩; exact ⟨none, 0, rfl, fun h => absurd h (by omega), hb⟩)
theorem none_shape14 (s : ByteArray) (hf : IsF29 (suB s) (-1)) (W : World) : Mk 14 s W 0 false (fun _ => ⟨#[]⟩) (fun _ => 0) :=
  (refMade s W).mono (by
    rintro r w' ⟨v, rfl, hm, hb⟩
    rcases hm with ⟨j, hj, hf', x, rfl, ho⟩ | ⟨hf', rfl⟩
    · exact absurd (first29 hf hf') (by omega)
    · exact ⟨none, 0, rfl, fun h => absurd h (by omega), hb⟩)
theorem volt_first : IsF29 (suB ⟨#[86]⟩) ((5 : Nat) : Int) := Or.inl ⟨5, by decide, rfl, by decide +kernel, by decide +kernel⟩
theorem volt_made (W : World) (htab : Tab W) : Calls Tryz.prog 13 #[.string ⟨#[86]⟩] W fun r w' => ∃ a cap, r = .returned (.tuple #[.slice a 4 cap, .bool true]) ∧ Below W.heap.size W w' :=
  (siMade_yes _ 5 volt_first W htab).mono (by
    rintro r w' ⟨v, rfl, ho, hb⟩
    obtain ⟨a, cap, rfl, _⟩ := row_of ho (mkL_pairs _ 8).2
    exact ⟨a, cap, by rw [show cntM (evF (sut 5)) 8 = 4 by decide +kernel], hb⟩)
theorem law_made (s : ByteArray) (w : World) (htab : Tab w) : Calls Tryz.prog 5 #[.string s] w fun r w' => r = .returned (.bool true) ∧ Below w.heap.size w w' := by
  rcases first_ex (suB s) with ⟨k, hk, hf⟩ | hf
  · exact law_made_walk s w _ (cntM_le _ 8) true _ _ (fun W hb => made_shape13 s k hf W (htab.later hb)) (fun W _ => made_shape14 s k hf W) (fun W hb => volt_made W (htab.later hb))
  · exact law_made_walk s w 0 (by omega) false _ _ (fun W _ => none_shape13 s hf W) (fun W _ => none_shape14 s hf W) (fun W hb => volt_made W (htab.later hb))
end Go.Proofs.YthcbhnggphdflaaGreatDoor

/- The document's own difference. -/
import Derived.Test.YtijifpbpjinmhaaGreatDoorRefMem
import Derived.Deep.RegionHeldLaw
import Derived.Test.YtijifpbpjinmhaaGreatDoorPow
import Derived.Test.YtijifpbpjinmhaaGreatDoorLimb5
import Derived.OneCell
set_option maxHeartbeats 2000000
set_option maxRecDepth 100000
namespace Go.Proofs.YtijifpbpjinmhaaGreatDoor
open Go.RowKit
theorem cut4_start (l : List UInt8) (n : Nat) (h : l.length = n) : (n : Int) = (n : Int) - 4 * (([] : List Nat).length : Int) ∧ Cub.limbs 10000 [] ∧ Cub.lval 10000 [] = Cub.dval (l.drop (n - 4 * ([] : List Nat).length)) := by
  subst h
  refine ⟨by simp, fun _ h => (by cases h), ?_⟩
  simp [Cub.lval, Cub.dval]
theorem refLimbs_any (s : ByteArray) (w : World) (hs : s.size ≤ 1000000000) (hd : Cub.digs s.data.toList) :
    Calls Tryz.prog 119 #[.string s] w fun e w' => ∃ v l, e = .returned v ∧ OwnI w' w.heap.size v l ∧ Cub.normal 10000 l ∧ Cub.lval 10000 l = Cub.dval s.data.toList ∧ Below w.heap.size w w' := by
  have HD := hide hd
  clear hd
  obtain ⟨i0, hi, hz0, hz1, hz2⟩ := info_parts Tryz.info3
  go_enter Tryz.func119, Tryz.ntmps119
  go_wp2
  go_loopw [3, 4] (fun v i wr => ∃ (L : List Nat) (x : Int), i = .int .i64 x ∧ x ≤ 1000000000 ∧ -4 < x ∧ L.length ≤ 400000000 ∧ Hid (x = (s.size : Int) - 4 * (L.length : Int) ∧ Cub.limbs 10000 L ∧ Cub.lval 10000 L = Cub.dval (s.data.toList.drop (s.size - 4 * L.length))) ∧
      wr.ownsRow w.heap.size 3 1 v L.length (i64s L) ∧ Below w.heap.size w wr) (fun _ i _ => (intOf i).toNat)
  case atStart => exact ⟨[], (s.size : Int), rfl, by omega, by omega, by simp, cut4_start _ _ (list_len s), World.ownsRow_nil _ _ _ _, Below.refl _ _⟩
  case round =>
    obtain ⟨L, x, rfl, hx1, hx4, hLl, HX, hown, hb⟩ := hrel
    by_cases hx : 0 < x
    · obtain ⟨e, rfl⟩ := Int.eq_ofNat_of_zero_le (Int.le_of_lt hx)
      have he0 : Hid (e + 4 * L.length = s.size) := by have := (unhide HX).1; exact (by omega : e + 4 * L.length = s.size)
      have hes : e ≤ s.size := by have := unhide he0; omega
      have HDs : Hid (∀ k (hk : k < s.size), 48 ≤ s[k].toNat ∧ s[k].toNat ≤ 57) := fun k hk => unhide HD s[k] (by rw [← list_get s k hk]; exact List.getElem_mem _)
      by_cases h4 : 4 ≤ e
      all_goals
        go_wp2
        go_loop [6, 7] (fun y i => ∃ (k n : Nat), e - 4 ≤ k ∧ k ≤ e ∧ i = .int .i64 k ∧ y = .int .i64 n ∧ n < 10000 ∧ Hid (n = Cub.dval ((s.data.toList.drop (e - 4)).take (k - (e - 4))))) (fun _ i => e - (intOf i).toNat)
        case atStart => exact ⟨e - 4, 0, Nat.le_refl _, by omega, by go_num, rfl, by omega, by rw [Nat.sub_self]; exact rfl⟩
        case round =>
          obtain ⟨k, n, hk1, hk2, rfl, rfl, hn, HN⟩ := hrel
          by_cases hlt : k < e
          · have hks : k < s.size := by omega
            obtain ⟨d1, d2⟩ := unhide HDs k hks
            have HN' : Hid (10 * n + (s[k].toNat - 48) = Cub.dval ((s.data.toList.drop (e - 4)).take (k + 1 - (e - 4)))) := by
              rw [Cub.seg_succ _ _ _ hk1 (by rw [list_len]; exact hks), ← unhide HN, Nat.mul_comm]; exact rfl
            have hn' : 10 * n + (s[k].toNat - 48) < 10000 := by rw [unhide HN']; exact Cub.seg4_lt (unhide HD) _ _ (by omega)
            go_wp2
            go_round
            case rel => exact ⟨k + 1, 10 * n + (s[k].toNat - 48), by omega, by omega, by go_num, by go_num, hn', HN'⟩
            case measure => simp [intOf]; omega
          · have hke : k = e := by omega
            subst hke
            clear hlt
            go_wp2_with (at_builtin; refine wpList_append_own _ rfl _ _ 138 rfl w.heap.size 3 i0 (.int .i64 0) 1 8 Tryz.underlying138 hi hz0 hz1 hz2 rfl (by decide) _ _ _ rfl (hown.alloc _) ⟨wr.heap.size, 0, none⟩ 1 1 [.int .i64 (n : Int)] rfl rfl (cell_one_new _ _ _) (fun x hx => by simp at hx; subst hx; rfl) (by unfold maxLen; omega) (by omega) (by have := hb.size; simp at this ⊢; omega) ?_; intro v' w1 hown' hgrow _)
            have hsz := hb.size
            have hb' : Below w.heap.size w w1 := (hb.alloc hsz _).grown hgrow (by simp; omega) (fun j hj => (hown.lt j hj).1)
            have hown2 : w1.ownsRow w.heap.size 3 1 v' (L ++ [n]).length (i64s (L ++ [n])) := by simpa [i64s] using hown'
            have HS := Cub.cut4_step s.data.toList L k (k - 4) (by rw [list_len]; exact unhide he0) rfl (unhide HD) (unhide HX).2.1 (by have := (unhide HX).2.2; rw [this]; congr 2; have := unhide he0; omega)
            rw [← unhide HN] at HS
            have HS' := hide HS
            clear hgrow hown' HS hown hsz
            go_wp2
            go_roundw
            case rel => exact ⟨L ++ [n], (k : Int) - 4, rfl, by omega, by omega, by have := unhide he0; simp; omega, ⟨by have := unhide he0; simp; omega, (unhide HS').1, by rw [(unhide HS').2]; congr 2; have := unhide he0; simp; omega⟩, hown2, hb'⟩
            case measure => simp [intOf]; omega
    · have hfin : Cub.lval 10000 (Cub.trimN L) = Cub.dval s.data.toList ∧ Cub.normal 10000 (Cub.trimN L) := by
        obtain ⟨h1, h2, h3⟩ := unhide HX
        obtain ⟨t1, t2, _⟩ := Cub.lval_trim 10000 _ L rfl
        refine ⟨?_, t2 h2⟩
        rw [t1, h3, show s.size - 4 * L.length = 0 by omega, List.drop_zero]
      have HF := hide hfin
      have HO : Hid (OwnI wr w.heap.size u3 L) := hown
      clear hfin hown
      go_wp2_with (go_at_call 133; refine (refTrim_any _ _ L _ (unhide HO)).mono ?_; rintro e w2 ⟨v', rfl, hrow2, rfl⟩)
      go_ret
      exact ⟨v', _, rfl, hrow2, (unhide HF).2, (unhide HF).1, hb⟩
end Go.Proofs.YtijifpbpjinmhaaGreatDoor
namespace Cub
open Go.Lib (decDigits)
/-- All four digits of each limb, the last limb ahead. -/
def padAll : List Nat → List UInt8
  | [] => []
  | x :: t => padAll t ++ padn 4 x
theorem padAll_drop (l : List Nat) (i : Nat) (hi : i < l.length) : padAll (l.drop i) = padAll (l.drop (i + 1)) ++ padn 4 l[i] := by
  rw [List.drop_eq_getElem_cons hi]; rfl
theorem padn_digs (k : Nat) : ∀ d, digs (padn k d) := by
  induction k with
  | zero => intro d; exact digs_nil
  | succ k ih =>
    intro d
    refine digs_append.2 ⟨ih _, fun c hc => ?_⟩
    rw [List.mem_singleton] at hc; subst hc; rw [toNat_dig _ (by omega)]; omega
theorem padAll_digs (l : List Nat) : digs (padAll l) := by
  induction l with
  | nil => exact digs_nil
  | cons x t ih => exact digs_append.2 ⟨ih, padn_digs 4 x⟩
theorem padn_val (k : Nat) : ∀ d, d < 10 ^ k → dval (padn k d) = d := by
  induction k with
  | zero => intro d h; have : d = 0 := by simpa using h
            subst this; rfl
  | succ k ih =>
    intro d h
    simp only [padn]
    rw [dval_snoc, ih _ (by rw [Nat.pow_succ] at h; omega), toNat_dig _ (by omega)]; omega
theorem padAll_val (l : List Nat) (h : limbs 10000 l) : dval (padAll l) = lval 10000 l := by
  induction l with
  | nil => rfl
  | cons x t ih =>
    simp only [padAll, lval]
    rw [dval_append, padn_length, ih (fun y hy => h y (List.mem_cons_of_mem _ hy)), padn_val 4 x (h x (by simp))]; omega
theorem pad4 (x : Nat) (h : x < 10000) : padn 4 x = [UInt8.ofNat (48 + x / 1000), UInt8.ofNat (48 + x / 100 % 10), UInt8.ofNat (48 + x / 10 % 10), UInt8.ofNat (48 + x % 10)] := by
  simp only [padn, List.nil_append, List.cons_append, Nat.div_div_eq_div_mul]
  rw [show x / (10 * (10 * 10)) % 10 = x / 1000 from by omega]
theorem dval_noughts (k : Nat) : dval (List.replicate k 48) = 0 := by
  induction k with
  | zero => rfl
  | succ k ih => rw [List.replicate_succ, dval_cons, ih]; simp
/-- Noughts ahead left out. -/
theorem strip_noughts (P : List UInt8) (k : Nat) (hk : k < P.length) (hd : digs P) (h0 : ∀ j (hj : j < P.length), j < k → P[j] = 48) (h1 : P[k] ≠ 48) : P.drop k = decDigits (dval P) := by
  have e1 : dval P = dval (P.drop k) := by
    have e2 : P.take k = List.replicate k 48 := by
      apply List.ext_getElem
      · simp; omega
      · intro j h1 h2
        simp only [List.getElem_take, List.getElem_replicate]
        exact h0 j (by simp at h1; omega) (by simp at h1; omega)
    have e3 := dval_noughts k
    have := dval_append (P.take k) (P.drop k)
    rw [List.take_append_drop, e2, e3] at this
    simpa using this
  rw [e1]
  refine (dec_dval _ _ rfl ⟨fun c hc => hd c (List.mem_of_mem_drop hc), ?_, fun h => ?_⟩).symm
  · intro e; have := congrArg List.length e; simp at this; omega
  · rw [List.head?_drop, List.getElem?_eq_getElem hk, Option.some.injEq] at h; exact absurd h h1
theorem some_digit (P : List UInt8) (h : 0 < dval P) : ∃ j, ∃ hj : j < P.length, P[j] ≠ 48 := by
  apply Decidable.byContradiction
  intro hn
  have h0 : ∀ j (hj : j < P.length), P[j] = 48 := fun j hj => Decidable.byContradiction fun h1 => hn ⟨j, hj, h1⟩
  have : dval P = 0 := by
    clear h hn
    induction P with
    | nil => rfl
    | cons x t ih =>
      rw [dval_cons, ih (fun j hj => h0 (j + 1) (by simpa using hj))]
      have := h0 0 (by simp)
      simp at this; subst this; simp
  omega
end Cub
namespace Go.Proofs.YtijifpbpjinmhaaGreatDoor
open Go.RowKit
theorem step_append_own {P : Program} {ops : Array Oper} {o : Oper} {a : Act} {w : World} {K : Act → World → Prop} {Q : Exit → Act → World → Prop} {E : Prop}
    (hg : o.guard = none) (s x : Operand) (t : TypeId) (ho : o.op = .call { callee := .builtin .append, args := #[s, x], argTypes := #[t, t] })
    (base : Nat) (e : TypeId) (i : TypeInfo) (z : Value) (size bytes : Nat) (ht : P.underlying t = some (.slice e)) (hi : P.info? e = some i) (hz : i.zero = some z)
    (hsize : i.size = size) (hby : i.bytes = bytes) (hzs : z.cells.size = size) (hsz : 0 < size)
    (v : Value) (n : Nat) (xs : List Value) (hs : a.eval s = v) (hown : w.ownsRow base e size v n xs)
    (ad : Addr) (m c : Nat) (news : List Value) (hx : a.eval x = .slice (some ad) m c) (hl : news.length = m * size) (hnews : ∀ j u, news[j]? = some u → w.cell? (ad.add j) = some u) (h1 : ∀ u ∈ news, u.oneCell' = true)
    (h63 : n + m ≤ maxLen) (hbytes : (n + m) * bytes ≤ 140737488355328) (hbase : base ≤ w.heap.size)
    (h : ∀ v' w', w'.ownsRow base e size v' (n + m) (xs ++ news) → w.grownBy w' v.ownBlock → K (a.put o.dst v') w') :
    if Region.wanted o (yielded ops a.tmps) = true then Oper.wp P o a w K Q else E := by
  have hw : Region.wanted o (yielded ops a.tmps) = true := by simp [Region.wanted, hg]
  rw [if_pos hw]
  exact wp_append_own w s x t ho base e i z size bytes ht hi hz hsize hby hzs hsz v n xs hs hown ad m c news hx hl hnews h1 h63 hbytes hbase fun v' w' h2 h3 _ => h v' w' h2 h3
end Go.Proofs.YtijifpbpjinmhaaGreatDoor
namespace Go.Proofs.YtijifpbpjinmhaaGreatDoor
open Go.RowKit
/-- Four bytes of a limb. -/
def four (x : Nat) : List Value := [Value.int .u8 (48 + (x : Int) / 1000), .int .u8 (48 + (x : Int) / 100 % 10), .int .u8 (48 + (x : Int) / 10 % 10), .int .u8 (48 + (x : Int) % 10)]
theorem byteCells_pad (l : List UInt8) (x : Nat) (h : x < 10000) : Lib.byteCells l ++ four x = Lib.byteCells (l ++ Cub.padn 4 x) := by
  rw [Lib.byteCells_append, Cub.pad4 x h]
  congr 1
  simp only [Lib.byteCells, List.map_cons, List.map_nil, four]
  rw [Cub.toNat_dig _ (by omega), Cub.toNat_dig _ (by omega), Cub.toNat_dig _ (by omega), Cub.toNat_dig _ (by omega)]
  rfl
/-- The same as the region spells them. -/
def fourW (x : Nat) : List Value := [Value.int .u8 (IntKind.u8.wrap (IntKind.i64.wrap (48 + IntKind.i64.wrap ((x : Int) / 1000)))), Value.int .u8 (IntKind.u8.wrap (IntKind.i64.wrap (48 + (IntKind.i64.wrap ((x : Int) / 100)).tmod 10))), Value.int .u8 (IntKind.u8.wrap (IntKind.i64.wrap (48 + (IntKind.i64.wrap ((x : Int) / 10)).tmod 10))), Value.int .u8 (IntKind.u8.wrap (IntKind.i64.wrap (48 + (x : Int).tmod 10)))]
theorem w64 (n : Int) (h0 : 0 ≤ n) (h1 : n ≤ 100000) : IntKind.i64.wrap n = n := IntWalk.i64_in _ ⟨by omega, by omega⟩
theorem w8 (n : Int) (h0 : 0 ≤ n) (h1 : n ≤ 255) : IntKind.u8.wrap n = n := by rw [IntKind.wrap_u8]; omega
theorem tm (n : Int) (h0 : 0 ≤ n) : n.tmod 10 = n % 10 := Int.tmod_eq_emod_of_nonneg h0
theorem fourW_eq (x : Nat) (h : x < 10000) : fourW x = four x := by
  unfold fourW four
  rw [w64 ((x : Int) / 1000) (by omega) (by omega), w64 ((x : Int) / 100) (by omega) (by omega), w64 ((x : Int) / 10) (by omega) (by omega), tm ((x : Int) / 100) (by omega), tm ((x : Int) / 10) (by omega), tm (x : Int) (by omega)]
  rw [w64 _ (by omega) (by omega), w64 _ (by omega) (by omega), w64 _ (by omega) (by omega), w64 _ (by omega) (by omega)]
  rw [w8 _ (by omega) (by omega), w8 _ (by omega) (by omega), w8 _ (by omega) (by omega), w8 _ (by omega) (by omega)]
theorem cells4 (W : World) (x : Nat) : ∀ j u, (fourW x)[j]? = some u → ((W.alloc (.cells #[Value.int .u8 (IntKind.u8.wrap (IntKind.i64.wrap (48 + IntKind.i64.wrap ((x : Int) / 1000)))), Value.int .u8 (IntKind.u8.wrap (IntKind.i64.wrap (48 + (IntKind.i64.wrap ((x : Int) / 100)).tmod 10))), Value.int .u8 (IntKind.u8.wrap (IntKind.i64.wrap (48 + (IntKind.i64.wrap ((x : Int) / 10)).tmod 10))), Value.int .u8 (IntKind.u8.wrap (IntKind.i64.wrap (48 + (x : Int).tmod 10)))] 5)).drew).cell? ((⟨W.heap.size, 0, none⟩ : Addr).add j) = some u := by
  intro j u hj
  rw [Lib.add_plain, Nat.zero_add]
  show (W.alloc _).cell? _ = _
  rw [World.cell?_alloc_at _ _ _ _ rfl]
  unfold fourW at hj
  simpa using hj
theorem refText_any (v : Value) (base : Nat) (l : List Nat) (w : World) (h : OwnI w base v l) (hn : Cub.normal 10000 l) (hl : l.length ≤ 1000000) :
    Calls Tryz.prog 117 #[v] w fun e w' => e = .returned (.string ⟨(Lib.decDigits (Cub.lval 10000 l)).toArray⟩) ∧ Below w.heap.size w w' := by
  obtain ⟨a, cap, rfl, hc, hm, hcells⟩ := h.open
  have HC := hide hcells
  have HN := hide hn
  obtain ⟨n, hnl⟩ : ∃ n, n = l.length := ⟨_, rfl⟩
  rw [← hnl] at hl hc ⊢
  have HL := hide hnl
  clear h hcells hn hnl
  by_cases h0 : n = 0
  · subst h0
    have hl0 : l = [] := List.length_eq_zero_iff.1 (unhide HL).symm
    have HE : Hid (Lib.decDigits (Cub.lval 10000 l) = [48]) := by rw [hl0]; exact (by decide +kernel : Lib.decDigits (Cub.lval 10000 []) = [48])
    rw [unhide HE]
    clear hl0
    go_enter Tryz.func117, Tryz.ntmps117
    go_wp2
    go_ret
    exact ⟨rfl, Below.refl _ _⟩
  · have hz : ((n : Int) == 0) = false := by rw [beq_eq_false_iff_ne]; omega
    obtain ⟨i5, hi5, hz50, hz51, hz52⟩ := info_parts Tryz.info5
    go_enter Tryz.func117, Tryz.ntmps117
    go_wp2_with (at_make; refine wpList_make_own _ rfl _ _ 46 rfl w.heap.size 5 i5 (.int .u8 0) 1 Tryz.underlying46 hi5 hz50 hz51 .i64 .i64 _ (4 * n) rfl rfl (by omega) (by rw [hz52]; omega) (by unfold maxLen; omega) (Nat.le_refl _) ?_; intro w3 hown3 hgrow3)
    have hb3 : Below w.heap.size w w3 := (Below.refl _ _).grown hgrow3 (Nat.le_refl _) (fun k hk => by cases hk)
    have hst : w3.ownsRow w.heap.size 5 1 (.slice (some ⟨w.heap.size, 0, none⟩) 0 (4 * n)) 0 (Lib.byteCells []) := hown3
    clear hown3 hgrow3
    go_loopw [3, 4] (fun v i wr => ∃ (j : Nat) (P : List UInt8), j ≤ n ∧ i = .int .i64 ((j : Int) - 1) ∧ Hid (P.length = 4 * (n - j)) ∧ Hid (P = Cub.padAll (l.drop j)) ∧ wr.ownsRow w.heap.size 5 1 v P.length (Lib.byteCells P) ∧ Below w.heap.size w wr) (fun _ i _ => (intOf i + 1).toNat)
    case atStart => exact ⟨n, [], Nat.le_refl _, rfl, by rw [Nat.sub_self]; exact rfl, by rw [List.drop_of_length_le (by have := unhide HL; omega)]; exact rfl, hst, hb3⟩
    case round =>
      obtain ⟨j, P, hj, rfl, HPl, HP, hown, hb⟩ := hrel
      have hP2 : P.length ≤ 4 * (n - j) := by have := unhide HPl; omega
      clear hst hb3
      by_cases hj0 : j = 0
      · subst hj0
        have hnm := unhide HN
        have HV : Hid (Cub.dval P = Cub.lval 10000 l) := by rw [unhide HP, List.drop_zero, Cub.padAll_val l hnm.1]; exact rfl
        have hdg : Cub.digs P := by rw [unhide HP]; exact Cub.padAll_digs _
        have hpos : 0 < Cub.dval P := by
          rw [unhide HV]
          rcases Nat.eq_zero_or_pos (Cub.lval 10000 l) with h | h
          · have := (Cub.normal_zero hnm (by decide)).1 h
            have h2 := unhide HL
            rw [this] at h2; simp at h2; omega
          · exact h
        obtain ⟨jd, hjd, hne⟩ := Cub.some_digit P hpos
        have hP4 : P.length = 4 * n := by have := unhide HPl; omega
        obtain ⟨g, cg, rfl⟩ := Joins.ownsRow_form hown (by omega)
        have HCell : Hid (∀ q (hq : q < P.length), wr.cell? ⟨g, q, none⟩ = some (.int .u8 (P[q].toNat : Int))) := fun q hq => by
          rw [hown.cellAt q (by simpa using hq)]
          simp [Lib.byteCells, hq]
        obtain ⟨_, hcg, hcm⟩ : True ∧ P.length ≤ cg ∧ cg ≤ 9223372036854775807 := by
          rcases hown.2 with ⟨e, _⟩ | ⟨g', c', cur, e, _, _, hcap, hmax, _⟩
          · simp at e
          · simp only [Value.slice.injEq] at e; obtain ⟨_, _, rfl⟩ := e; exact ⟨trivial, hcap, hmax⟩
        have HDg := hide hdg
        have HNe := hide hne
        have hP5 : P.length ≤ 4 * n := by omega
        clear hnm hdg hpos hne hown hP2 hP4
        go_wp2
        go_loop [5] (fun t => ∃ k : Nat, k ≤ jd ∧ t = .int .i64 (k : Int) ∧ Hid (∀ q (hq : q < P.length), q < k → P[q] = 48)) (fun t => jd - (intOf t).toNat)
        case atStart => exact ⟨0, Nat.zero_le _, rfl, fun q _ h => absurd h (Nat.not_lt_zero _)⟩
        case round =>
          obtain ⟨k, hk, rfl, HK⟩ := hrel
          have hkP : k < P.length := by omega
          have hx := unhide HCell k hkP
          by_cases h48 : P[k] = 48
          · have hkj : k < jd := by
              rcases Nat.lt_or_ge k jd with h | h
              · exact h
              · exfalso
                have e : k = jd := by omega
                subst e
                exact unhide HNe h48
            have HK' : Hid (∀ q (hq : q < P.length), q < k + 1 → P[q] = 48) := fun q hq h => by
              by_cases e : q < k
              · exact unhide HK q hq e
              · have : q = k := by omega
                subst this; exact h48
            have h48' : ((P[k].toNat : Int) == 48) = true := by rw [beq_iff_eq]; exact (byte_48 _).2 h48
            clear h48
            go_wp2
            go_round
            case rel => exact ⟨k + 1, by omega, by go_num, HK'⟩
            case measure => simp [intOf]; omega
          · have h48' : ((P[k].toNat : Int) == 48) = false := by rw [beq_eq_false_iff_ne]; exact fun h => h48 ((byte_48 _).1 h)
            have HE : Hid (P.drop k = Lib.decDigits (Cub.lval 10000 l)) := by rw [← unhide HV]; exact Cub.strip_noughts P k hkP (unhide HDg) (unhide HK) h48
            have hcv := run_convert_bytes_back (P := Tryz.prog) wr 46 9 5 ⟨g, k, none⟩ (cg - k) (P.drop k) Tryz.underlying46 Tryz.underlying5 Tryz.underlying9 (fun q hq => by
              rw [Lib.add_plain, unhide HCell (k + q) (by rw [List.length_drop] at hq; omega), List.getElem_drop])
            rw [List.length_drop] at hcv
            clear h48
            go_wp2
            go_ret
            exact ⟨by rw [← unhide HE]; rfl, hb⟩
      · obtain ⟨i, rfl⟩ : ∃ i, j = i + 1 := ⟨j - 1, by omega⟩
        have hil : i < l.length := by have := unhide HL; omega
        obtain ⟨d, hd⟩ : ∃ d, d = l[i] := ⟨_, rfl⟩
        have hdB : d < 10000 := by rw [hd]; exact (unhide HN).1 _ (List.getElem_mem hil)
        obtain ⟨b, rfl, hx⟩ := unhide HC wr hb i hil
        rw [← hd] at hx
        have HD := hide hd
        have hin : (i : Int) < (n : Int) := by omega
        have hbw : b < wr.heap.size := World.block_lt_of_cell? wr ⟨b, i, none⟩ hx
        have hbo : some b ≠ u3.ownBlock := by
          intro e
          obtain ⟨b', eb, hx'⟩ := unhide HC w (Below.refl _ _) i hil
          simp only [Option.some.injEq, Addr.mk.injEq] at eb
          have h1 := World.block_lt_of_cell? w ⟨b', i, none⟩ hx'
          have h2 := (hown.lt b e.symm).1
          have h3 : b' < w.heap.size := h1
          omega
        have hl1 : P.length + 4 ≤ maxLen := by unfold maxLen; omega
        have hl2 : (P.length + 4) * 1 ≤ 140737488355328 := by omega
        have hl3 : w.heap.size ≤ wr.heap.size := hb.size
        have hl4 : ∀ W : World, w.heap.size ≤ wr.heap.size → W.heap.size = wr.heap.size → ∀ o, w.heap.size ≤ (W.alloc o).heap.size := fun W h1 h2 o => by simp; omega
        have hone : ∀ u ∈ fourW d, u.oneCell' = true := by
          intro u hu
          simp only [fourW, List.mem_cons, List.not_mem_nil, or_false] at hu
          rcases hu with rfl | rfl | rfl | rfl <;> rfl
        clear hd hj0
        rw [show (((i + 1 : Nat) : Int) - 1) = (i : Int) from by omega]
        go_wp2
        go_region_held_law (fun w' => w'.cell? ⟨b, i, none⟩ = some (.int .i64 (d : Int))) (first | go_keep | exact hgrow.cell (by simp [*]) hbo) (first | (refine step_append_own rfl _ _ 46 rfl w.heap.size 5 i5 (.int .u8 0) 1 1 Tryz.underlying46 hi5 hz50 hz51 hz52 rfl (by decide) _ _ _ rfl (hown.alloc _).drew ⟨wr.heap.size, 0, none⟩ 4 4 (fourW d) rfl rfl (cells4 _ _) hone hl1 hl2 (hl4 _ hl3 rfl _) ?_; intro v' w1 hown' hgrow))
        have hsz1 : w.heap.size ≤ w1.heap.size := by have := hgrow.size; simp at this; omega
        have hb1 : Below w.heap.size w w1 := ((hb.alloc hb.size _).drew).grown hgrow (by simp; omega) (fun k hk => (hown.lt k hk).1)
        have hownN : w1.ownsRow w.heap.size 5 1 v' (P ++ Cub.padn 4 d).length (Lib.byteCells (P ++ Cub.padn 4 d)) := by
          rw [← byteCells_pad P d hdB, ← fourW_eq d hdB]
          rw [List.length_append, Cub.padn_length]
          exact hown'
        have HPN : Hid (P ++ Cub.padn 4 d = Cub.padAll (l.drop i)) := by
          rw [Cub.padAll_drop l i hil, ← unhide HP, ← unhide HD]; exact rfl
        have HPLN : Hid ((P ++ Cub.padn 4 d).length = 4 * (n - i)) := by
          rw [List.length_append, Cub.padn_length]; have := unhide HPl; exact (by omega : P.length + 4 = 4 * (n - i))
        clear hown' hgrow hown hb hone hl1 hl2 hl3 hl4 hx
        go_wp2
        go_roundw
        case rel => exact ⟨i, P ++ Cub.padn 4 d, by omega, rfl, HPLN, HPN, hownN, hb1⟩
        case measure => simp [intOf]
end Go.Proofs.YtijifpbpjinmhaaGreatDoor
namespace Cub
/-- A sum in the making, least limb first: S what is written, k what is carried. -/
structure PlusInv (B : Nat) (x y S : List Nat) (k : Nat) : Prop where
  lim : limbs B S
  val : lval B S + B ^ S.length * k = lval B (x.take S.length) + lval B (y.take S.length)
  carry : k ≤ 1
theorem PlusInv.start (B : Nat) (x y : List Nat) : PlusInv B x y [] 0 := ⟨fun _ h => (by cases h), by simp [lval], by omega⟩
theorem PlusInv.step {B : Nat} {x y S : List Nat} {k : Nat} (h : PlusInv B x y S k) (hB : 1 < B) (hx : x.getD S.length 0 < B) (hy : y.getD S.length 0 < B) :
    PlusInv B x y (S ++ [(k + x.getD S.length 0 + y.getD S.length 0) % B]) ((k + x.getD S.length 0 + y.getD S.length 0) / B) := by
  have hk := h.carry
  refine ⟨limbs_append.2 ⟨h.lim, fun z hz => ?_⟩, ?_, ?_⟩
  · rw [List.mem_singleton] at hz; subst hz; exact Nat.mod_lt _ (by omega)
  · rw [lval_snoc, List.length_append, List.length_singleton, takeB, takeB, Nat.pow_succ]
    have e := h.val
    generalize x.getD S.length 0 = a at *
    generalize y.getD S.length 0 = b at *
    have e3 : k + a + b = B * ((k + a + b) / B) + (k + a + b) % B := (Nat.div_add_mod _ _).symm
    generalize (k + a + b) / B = q at *
    generalize (k + a + b) % B = r at *
    have e4 := congrArg (B ^ S.length * ·) e3
    simp only [Nat.mul_add] at e4
    have m1 : B ^ S.length * B * q = B ^ S.length * (B * q) := Nat.mul_assoc _ _ _
    omega
  · have : (k + x.getD S.length 0 + y.getD S.length 0) < 2 * B := by omega
    have := Nat.div_lt_of_lt_mul (show (k + x.getD S.length 0 + y.getD S.length 0) < B * 2 by omega)
    omega
theorem PlusInv.sum {B : Nat} {x y S : List Nat} (h : PlusInv B x y S 0) (h1 : x.length ≤ S.length) (h2 : y.length ≤ S.length) : lval B S = lval B x + lval B y := by
  have := h.val
  rw [List.take_of_length_le h1, List.take_of_length_le h2] at this
  simpa using this
theorem getD_lt {B : Nat} {l : List Nat} (h : limbs B l) (hB : 0 < B) (i : Nat) : l.getD i 0 < B := by
  by_cases hi : i < l.length
  · simp only [List.getD, List.getElem?_eq_getElem hi, Option.getD_some]; exact h _ (List.getElem_mem hi)
  · simpa [List.getD, Nat.le_of_not_lt hi] using hB
theorem len_leB {B : Nat} (hB : 1 < B) {l : List Nat} {k : Nat} (h : normal B l) (hk : lval B l < B ^ k) : l.length ≤ k := by
  by_cases hne : l = []
  · subst hne; simp
  · have h1 := normal_ge h hne
    have h2 := (Nat.pow_lt_pow_iff_right hB).1 (Nat.lt_of_le_of_lt h1 hk)
    omega
theorem len_le4 {l : List Nat} {d : List UInt8} (hd : digs d) (h : normal 10000 l) (hv : lval 10000 l = dval d) : l.length ≤ d.length := by
  apply len_leB (by decide) h
  rw [hv]
  have h1 := dval_lt hd
  have h2 : 10 ^ d.length ≤ 10000 ^ d.length := Nat.pow_le_pow_left (by decide) _
  omega
end Cub
namespace Go.Proofs.YtijifpbpjinmhaaGreatDoor
open Go.RowKit
theorem refPlus_any (s t : ByteArray) (w : World) (hs : s.size ≤ 100000) (ht : t.size ≤ 100000) (hds : Cub.digs s.data.toList) (hdt : Cub.digs t.data.toList) :
    Calls Tryz.prog 84 #[.string s, .string t] w fun e w' => e = .returned (.string ⟨(Lib.decDigits (Cub.dval s.data.toList + Cub.dval t.data.toList)).toArray⟩) ∧ Below w.heap.size w w' := by
  have HDS := hide hds
  have HDT := hide hdt
  clear hds hdt
  obtain ⟨i0, hi, hz0, hz1, hz2⟩ := info_parts Tryz.info3
  go_enter Tryz.func84, Tryz.ntmps84
  go_wp2_with (first
    | (go_at_call_of 119 s; refine (refLimbs_any s _ (by omega) (unhide HDS)).mono ?_; rintro e w1 ⟨vx, lx, rfl, hox, hnx, hvx, hb1⟩; obtain ⟨ax, cx, rfl, hcx, hmx, hcellx⟩ := hox.open; have HX := hide (And.intro hnx (And.intro hvx hcellx)); clear hnx hvx hcellx hox)
    | (go_at_call_of 119 t; refine (refLimbs_any t _ (by omega) (unhide HDT)).mono ?_; rintro e w2 ⟨vy, ly, rfl, hoy, hny, hvy, hb2⟩; obtain ⟨ay, cy, rfl, hcy, hmy, hcelly⟩ := hoy.open; have HY := hide (And.intro hny (And.intro hvy hcelly)); clear hny hvy hcelly hoy))
  have hbx : lx.length ≤ 100000 := by have := Cub.len_le4 (unhide HDS) (unhide HX).1 (unhide HX).2.1; rw [list_len] at this; omega
  have hby : ly.length ≤ 100000 := by have := Cub.len_le4 (unhide HDT) (unhide HY).1 (unhide HY).2.1; rw [list_len] at this; omega
  obtain ⟨nx, hnx⟩ : ∃ nx, nx = lx.length := ⟨_, rfl⟩
  obtain ⟨ny, hny⟩ : ∃ ny, ny = ly.length := ⟨_, rfl⟩
  rw [← hnx] at hbx ⊢
  rw [← hny] at hby ⊢
  have HNX := hide hnx
  have HNY := hide hny
  have hb12 : Below w.heap.size w w2 := hb1.trans (hb2.mono hb1.size)
  have HB2 := hide (And.intro hb12 hb2)
  clear hnx hny hb12 hb2 hb1 hcx hcy hmx hmy
  go_loopw [7, 8, 9] (fun v c i wr => ∃ (S : List Nat) (k j : Nat), c = .int .i64 (k : Int) ∧ i = .int .i64 (j : Int) ∧ k ≤ 1 ∧ j ≤ nx + ny + 1 ∧ Hid (j = S.length ∧ (k = 0 ∨ j ≤ nx ∨ j ≤ ny)) ∧ Hid (Cub.PlusInv 10000 lx ly S k) ∧ wr.ownsRow w2.heap.size 3 1 v j (i64s S) ∧ Below w2.heap.size w2 wr) (fun _ _ i _ => nx + ny + 2 - (intOf i).toNat)
  case atStart => exact ⟨[], 0, 0, rfl, rfl, by omega, by omega, ⟨rfl, Or.inl rfl⟩, Cub.PlusInv.start _ _ _, World.ownsRow_nil _ _ _ _, Below.refl _ _⟩
  case round =>
    obtain ⟨S, k, j, rfl, rfl, hk, hj, HJ, HI, hown, hb⟩ := hrel
    obtain ⟨xv, hxv⟩ : ∃ xv, xv = lx.getD j 0 := ⟨_, rfl⟩
    obtain ⟨yv, hyv⟩ : ∃ yv, yv = ly.getD j 0 := ⟨_, rfl⟩
    have hxB : xv < 10000 := by rw [hxv]; exact Cub.getD_lt (unhide HX).1.1 (by decide) _
    have hyB : yv < 10000 := by rw [hyv]; exact Cub.getD_lt (unhide HY).1.1 (by decide) _
    have HI' : Hid (Cub.PlusInv 10000 lx ly (S ++ [(k + xv + yv) % 10000]) ((k + xv + yv) / 10000)) := by
      have := (unhide HI).step (by decide) (by rw [← (unhide HJ).1, ← hxv]; exact hxB) (by rw [← (unhide HJ).1, ← hyv]; exact hyB)
      rw [← (unhide HJ).1, ← hxv, ← hyv] at this; exact this
    have hX0 : ¬ j < nx → xv = 0 := fun h => by rw [hxv, List.getD_eq_getElem?_getD, List.getElem?_eq_none (by have := unhide HNX; omega)]; rfl
    have hY0 : ¬ j < ny → yv = 0 := fun h => by rw [hyv, List.getD_eq_getElem?_getD, List.getElem?_eq_none (by have := unhide HNY; omega)]; rfl
    have hXc : j < nx → ∃ b, ax = some ⟨b, 0, none⟩ ∧ wr.cell? ⟨b, j, none⟩ = some (.int .i64 (xv : Int)) := fun h => by
      have hl : j < lx.length := by have := unhide HNX; omega
      obtain ⟨b, e, hc⟩ := (unhide HX).2.2 wr ((unhide HB2).2.trans (hb.mono (unhide HB2).2.size)) j hl
      refine ⟨b, e, ?_⟩
      rw [hc, hxv, List.getD_eq_getElem?_getD, List.getElem?_eq_getElem hl]; rfl
    have hYc : j < ny → ∃ b, ay = some ⟨b, 0, none⟩ ∧ wr.cell? ⟨b, j, none⟩ = some (.int .i64 (yv : Int)) := fun h => by
      have hl : j < ly.length := by have := unhide HNY; omega
      obtain ⟨b, e, hc⟩ := (unhide HY).2.2 wr hb j hl
      refine ⟨b, e, ?_⟩
      rw [hc, hyv, List.getD_eq_getElem?_getD, List.getElem?_eq_getElem hl]; rfl
    have hsz := hb.size
    clear hxv hyv
    by_cases hx : j < nx
    · obtain ⟨bx, rfl, hcx⟩ := hXc hx
      by_cases hy : j < ny
      · obtain ⟨by', rfl, hcy⟩ := hYc hy
        clear hXc hYc hX0 hY0
        go_wp2_with (at_builtin; refine wpList_append_own _ rfl _ _ 138 rfl w2.heap.size 3 i0 (.int .i64 0) 1 8 Tryz.underlying138 hi hz0 hz1 hz2 rfl (by decide) _ _ _ rfl (hown.alloc _) ⟨wr.heap.size, 0, none⟩ 1 1 [.int .i64 (((k : Int) + (xv : Int) + (yv : Int)) % 10000)] rfl rfl (cell_one_new _ _ _) (fun x hx => by simp at hx; subst hx; rfl) (by unfold maxLen; omega) (by omega) (by simp; omega) ?_; intro v' w3 hown' hgrow _)
        have hb3 : Below w2.heap.size w2 w3 := (hb.alloc hsz _).grown hgrow (by simp; omega) (fun q hq => (hown.lt q hq).1)
        have hownN : w3.ownsRow w2.heap.size 3 1 v' (j + 1) (i64s (S ++ [(k + xv + yv) % 10000])) := by
          have e : i64s (S ++ [(k + xv + yv) % 10000]) = i64s S ++ [.int .i64 (((k : Int) + (xv : Int) + (yv : Int)) % 10000)] := by
            simp only [i64s, List.map_append, List.map_cons, List.map_nil]
            rw [show ((((k + xv + yv) % 10000 : Nat)) : Int) = ((k : Int) + (xv : Int) + (yv : Int)) % 10000 by omega]
          rw [e]; exact hown'
        clear hown' hgrow hown hb
        go_wp2
        go_roundw
        case rel => exact ⟨S ++ [(k + xv + yv) % 10000], (k + xv + yv) / 10000, j + 1, by go_num, by go_num, (unhide HI').carry, by omega, ⟨by rw [List.length_append, (unhide HJ).1]; rfl, by have := (unhide HJ).2; omega⟩, HI', hownN, hb3⟩
        case measure => simp [intOf]; omega
      · have hy0 := hY0 hy
        subst hy0
        clear hXc hYc hX0 hY0
        go_wp2_with (at_builtin; refine wpList_append_own _ rfl _ _ 138 rfl w2.heap.size 3 i0 (.int .i64 0) 1 8 Tryz.underlying138 hi hz0 hz1 hz2 rfl (by decide) _ _ _ rfl (hown.alloc _) ⟨wr.heap.size, 0, none⟩ 1 1 [.int .i64 (((k : Int) + (xv : Int)) % 10000)] rfl rfl (cell_one_new _ _ _) (fun x hx => by simp at hx; subst hx; rfl) (by unfold maxLen; omega) (by omega) (by simp; omega) ?_; intro v' w3 hown' hgrow _)
        have hb3 : Below w2.heap.size w2 w3 := (hb.alloc hsz _).grown hgrow (by simp; omega) (fun q hq => (hown.lt q hq).1)
        have hownN : w3.ownsRow w2.heap.size 3 1 v' (j + 1) (i64s (S ++ [(k + xv + 0) % 10000])) := by
          have e : i64s (S ++ [(k + xv + 0) % 10000]) = i64s S ++ [.int .i64 (((k : Int) + (xv : Int)) % 10000)] := by
            simp only [i64s, List.map_append, List.map_cons, List.map_nil]
            rw [show ((((k + xv + 0) % 10000 : Nat)) : Int) = ((k : Int) + (xv : Int)) % 10000 by omega]
          rw [e]; exact hown'
        clear hown' hgrow hown hb
        go_wp2
        go_roundw
        case rel => exact ⟨S ++ [(k + xv + 0) % 10000], (k + xv + 0) / 10000, j + 1, by go_num, by go_num, (unhide HI').carry, by omega, ⟨by rw [List.length_append, (unhide HJ).1]; rfl, by have := (unhide HJ).2; omega⟩, HI', hownN, hb3⟩
        case measure => simp [intOf]; omega
    · have hx0 := hX0 hx
      subst hx0
      by_cases hy : j < ny
      · obtain ⟨by', rfl, hcy⟩ := hYc hy
        clear hXc hYc hX0 hY0
        go_wp2_with (at_builtin; refine wpList_append_own _ rfl _ _ 138 rfl w2.heap.size 3 i0 (.int .i64 0) 1 8 Tryz.underlying138 hi hz0 hz1 hz2 rfl (by decide) _ _ _ rfl (hown.alloc _) ⟨wr.heap.size, 0, none⟩ 1 1 [.int .i64 (((k : Int) + (yv : Int)) % 10000)] rfl rfl (cell_one_new _ _ _) (fun x hx => by simp at hx; subst hx; rfl) (by unfold maxLen; omega) (by omega) (by simp; omega) ?_; intro v' w3 hown' hgrow _)
        have hb3 : Below w2.heap.size w2 w3 := (hb.alloc hsz _).grown hgrow (by simp; omega) (fun q hq => (hown.lt q hq).1)
        have hownN : w3.ownsRow w2.heap.size 3 1 v' (j + 1) (i64s (S ++ [(k + 0 + yv) % 10000])) := by
          have e : i64s (S ++ [(k + 0 + yv) % 10000]) = i64s S ++ [.int .i64 (((k : Int) + (yv : Int)) % 10000)] := by
            simp only [i64s, List.map_append, List.map_cons, List.map_nil]
            rw [show ((((k + 0 + yv) % 10000 : Nat)) : Int) = ((k : Int) + (yv : Int)) % 10000 by omega]
          rw [e]; exact hown'
        clear hown' hgrow hown hb
        go_wp2
        go_roundw
        case rel => exact ⟨S ++ [(k + 0 + yv) % 10000], (k + 0 + yv) / 10000, j + 1, by go_num, by go_num, (unhide HI').carry, by omega, ⟨by rw [List.length_append, (unhide HJ).1]; rfl, by have := (unhide HJ).2; omega⟩, HI', hownN, hb3⟩
        case measure => simp [intOf]; omega
      · have hy0 := hY0 hy
        subst hy0
        clear hXc hYc hX0 hY0
        by_cases hk0 : k = 0
        · subst hk0
          obtain ⟨t1, t2, _⟩ := Cub.lval_trim 10000 _ S rfl
          have HF : Hid (Cub.lval 10000 (Cub.trimN S) = Cub.dval s.data.toList + Cub.dval t.data.toList ∧ Cub.normal 10000 (Cub.trimN S)) := by
            refine ⟨?_, t2 (unhide HI).lim⟩
            rw [t1, (unhide HI).sum (by have := unhide HNX; have := (unhide HJ).1; omega) (by have := unhide HNY; have := (unhide HJ).1; omega), (unhide HX).2.1, (unhide HY).2.1]
          have hSl : S.length ≤ 300000 := by have := (unhide HJ).1; omega
          have hTl : (Cub.trimN S).length ≤ 1000000 := by
            obtain ⟨q, hq⟩ := (Cub.lval_trim 10000 _ S rfl).2.2
            have := congrArg List.length hq
            rw [List.length_append] at this; omega
          have HO : Hid (OwnI wr w2.heap.size u7 S) := by have h := hown; rw [(unhide HJ).1] at h; exact h
          have hb5 : Below w.heap.size w wr := (unhide HB2).1.trans (hb.mono (unhide HB2).1.size)
          clear t1 t2 hown
          go_wp2_with (first
            | (go_at_call 133; refine (refTrim_any _ _ S _ (unhide HO)).mono ?_; rintro e w5 ⟨v5, rfl, ho5, rfl⟩; have HO5 := hide ho5; clear ho5)
            | (go_at_call 117; refine (refText_any _ _ _ _ (unhide HO5) (unhide HF).2 hTl).mono ?_; rintro e w6 ⟨rfl, hb6⟩))
          go_ret
          exact ⟨by rw [(unhide HF).1]; rfl, hb5.trans (hb6.mono hb5.size)⟩
        · have hk1 : 0 < k := by omega
          go_wp2_with (at_builtin; refine wpList_append_own _ rfl _ _ 138 rfl w2.heap.size 3 i0 (.int .i64 0) 1 8 Tryz.underlying138 hi hz0 hz1 hz2 rfl (by decide) _ _ _ rfl (hown.alloc _) ⟨wr.heap.size, 0, none⟩ 1 1 [.int .i64 (((k : Int)) % 10000)] rfl rfl (cell_one_new _ _ _) (fun x hx => by simp at hx; subst hx; rfl) (by unfold maxLen; omega) (by omega) (by simp; omega) ?_; intro v' w3 hown' hgrow _)
          have hb3 : Below w2.heap.size w2 w3 := (hb.alloc hsz _).grown hgrow (by simp; omega) (fun q hq => (hown.lt q hq).1)
          have hownN : w3.ownsRow w2.heap.size 3 1 v' (j + 1) (i64s (S ++ [(k + 0 + 0) % 10000])) := by
            have e : i64s (S ++ [(k + 0 + 0) % 10000]) = i64s S ++ [.int .i64 (((k : Int)) % 10000)] := by
              simp only [i64s, List.map_append, List.map_cons, List.map_nil]
              rw [show ((((k + 0 + 0) % 10000 : Nat)) : Int) = ((k : Int)) % 10000 by omega]
            rw [e]; exact hown'
          clear hown' hgrow hown hb
          go_wp2
          go_roundw
          case rel => exact ⟨S ++ [(k + 0 + 0) % 10000], (k + 0 + 0) / 10000, j + 1, by go_num, by go_num, (unhide HI').carry, by have := (unhide HJ).2; omega, ⟨by rw [List.length_append, (unhide HJ).1]; rfl, by have := (unhide HJ).2; omega⟩, HI', hownN, hb3⟩
          case measure => simp [intOf]; omega
end Go.Proofs.YtijifpbpjinmhaaGreatDoor
namespace Cub
theorem normal_len_le {B : Nat} (hB : 1 < B) {x y : List Nat} (hx : limbs B x) (hy : normal B y) (h : lval B y ≤ lval B x) : y.length ≤ x.length := by
  apply len_leB hB hy
  exact Nat.lt_of_le_of_lt h (lval_lt hx)
end Cub
namespace Go.Proofs.YtijifpbpjinmhaaGreatDoor
open Go.RowKit
theorem i64s_set (l : List Nat) (i x : Nat) : (i64s l).set i (.int .i64 (x : Int)) = i64s (l.set i x) := by simp [i64s, List.map_set]
end Go.Proofs.YtijifpbpjinmhaaGreatDoor

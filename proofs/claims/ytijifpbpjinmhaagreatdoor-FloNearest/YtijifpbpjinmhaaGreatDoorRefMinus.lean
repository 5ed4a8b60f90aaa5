/- The document's own difference. -/
import Derived.Test.YtijifpbpjinmhaaGreatDoorText
import Derived.Deep.RegionHeldLaw
import Derived.Test.YtijifpbpjinmhaaGreatDoorMulMath
import Derived.OneCell
set_option maxHeartbeats 2000000
set_option maxRecDepth 100000
namespace Cub
theorem pow4 (m : Nat) : 10 ^ (4 * m) = 10000 ^ m := by rw [Nat.pow_mul]
theorem dval_cut4 (l : List UInt8) (m e f : Nat) (he : e + 4 * m = l.length) (hf : f ≤ e) :
    dval (l.drop f) = dval (l.drop e) + 10000 ^ m * dval ((l.drop f).take (e - f)) := by
  have h1 : l.drop f = (l.drop f).take (e - f) ++ l.drop e := by
    have := List.take_append_drop (e - f) (l.drop f)
    rw [List.drop_drop] at this
    rw [show f + (e - f) = e by omega] at this
    exact this.symm
  rw [← pow4]
  have hl : (l.drop e).length = 4 * m := by rw [List.length_drop]; omega
  rw [h1, dval_append, hl, ← h1, Nat.mul_comm, Nat.add_comm]
theorem seg4_lt {l : List UInt8} (h : digs l) (f k : Nat) (hk : k ≤ 4) : dval ((l.drop f).take k) < 10000 := by
  have h1 := dval_lt (digs_sub h f k)
  have h2 : ((l.drop f).take k).length ≤ 4 := by rw [List.length_take]; omega
  have h3 : 10 ^ ((l.drop f).take k).length ≤ 10 ^ 4 := Nat.pow_le_pow_right (by decide) h2
  omega
theorem cut4_step (l : List UInt8) (L : List Nat) (e f : Nat) (he : e + 4 * L.length = l.length) (hf : f = e - 4) (hd : digs l) (hL : limbs 10000 L)
    (hv : lval 10000 L = dval (l.drop e)) :
    limbs 10000 (L ++ [dval ((l.drop f).take (e - f))]) ∧ lval 10000 (L ++ [dval ((l.drop f).take (e - f))]) = dval (l.drop f) := by
  refine ⟨limbs_append.2 ⟨hL, fun x hx => ?_⟩, ?_⟩
  · rw [List.mem_singleton] at hx; subst hx; exact seg4_lt hd f _ (by omega)
  · rw [lval_snoc, hv, dval_cut4 l L.length e f he (by omega)]
end Cub
namespace Go.Proofs.YtijifpbpjinmhaaGreatDoor
open Go.RowKit
theorem Tryz.info3 : (Tryz.prog.info? 3).map (fun i => (i.zero, i.size, i.bytes)) = some (some (.int .i64 0), 1, 8) := by kernel_rfl
def i64s (l : List Nat) : List Value := l.map fun x : Nat => Value.int .i64 (x : Int)
theorem i64s_length (l : List Nat) : (i64s l).length = l.length := by simp [i64s]
theorem i64s_get (l : List Nat) (i : Nat) (h : i < l.length) : (i64s l)[i]? = some (.int .i64 (l[i] : Int)) := by simp [i64s, h]
/-- The call owns a row of these limbs. -/
def OwnI (w : World) (base : Nat) (v : Value) (l : List Nat) : Prop := w.ownsRow base 3 1 v l.length (i64s l)
/-- What is read of it in every later world. -/
def CellsI (w : World) (a : Option Addr) (l : List Nat) : Prop :=
  ∀ W, Below w.heap.size w W → ∀ i (hi : i < l.length), ∃ b, a = some ⟨b, 0, none⟩ ∧ W.cell? ⟨b, i, none⟩ = some (.int .i64 (l[i] : Int))
theorem OwnI.open {w : World} {base : Nat} {v : Value} {l : List Nat} (h : OwnI w base v l) : ∃ a cap, v = .slice a l.length cap ∧ l.length ≤ cap ∧ cap ≤ 9223372036854775807 ∧ CellsI w a l := by
  have h' : w.ownsRow base 3 1 v l.length (i64s l) := h
  rcases Joins.ownsRow_forms h' with ⟨rfl, h0⟩ | ⟨g, cap, rfl⟩
  · refine ⟨none, 0, by rw [h0], by omega, by omega, fun W hW i hi => by omega⟩
  · obtain ⟨hx, h2⟩ := id h'
    rcases h2 with ⟨e, _⟩ | ⟨g', cap', cur, e, hb, hg, hcap, hmax, hsz, htk⟩
    · cases e
    · simp only [Value.slice.injEq, Option.some.injEq, Addr.mk.injEq] at e
      obtain ⟨⟨rfl, _⟩, _, rfl⟩ := e
      refine ⟨some ⟨g, 0, none⟩, cap, rfl, hcap, hmax, fun W hW i hi => ⟨g, rfl, ?_⟩⟩
      have hlt : g < w.heap.size := (Array.getElem?_eq_some_iff.1 hg).1
      rw [hW.cell (p := ⟨g, i, none⟩) hlt, h'.cellAt i (by omega), i64s_get l i hi]
theorem OwnI.later {w w' : World} {base : Nat} {v : Value} {l : List Nat} (h : OwnI w base v l) (hb : Below w.heap.size w w') : OwnI w' base v l := by
  obtain ⟨hx, h2⟩ := h
  refine ⟨hx, ?_⟩
  rcases h2 with h2 | ⟨g, cap, cur, e, hbs, hg, r⟩
  · exact Or.inl h2
  · exact Or.inr ⟨g, cap, cur, e, hbs, (hb.block g (Array.getElem?_eq_some_iff.1 hg).1).trans hg, r⟩
/-- The first ones. -/
theorem OwnI.take {w : World} {base n cap : Nat} {a : Option Addr} {l : List Nat} (h : OwnI w base (.slice a n cap) l) (k : Nat) (hk : k ≤ n) : OwnI w base (.slice a k cap) (l.take k) := by
  obtain ⟨hx, h2⟩ := h
  rcases h2 with ⟨e, h0⟩ | ⟨g, cap', cur, e, hbs, hg, hcap, hmax, hsz, htk⟩
  · simp only [Value.slice.injEq] at e
    obtain ⟨rfl, rfl, rfl⟩ := e
    have : l = [] := List.length_eq_zero_iff.1 h0
    subst this
    have hk0 : k = 0 := by simpa using hk
    subst hk0
    exact World.ownsRow_nil _ _ _ _
  · simp only [Value.slice.injEq] at e
    obtain ⟨rfl, rfl, rfl⟩ := e
    have hl : (l.take k).length = k := by rw [List.length_take]; omega
    unfold OwnI
    rw [hl]
    refine ⟨by rw [i64s_length, hl]; omega, Or.inr ⟨g, cap, cur, rfl, hbs, hg, by omega, hmax, hsz, ?_⟩⟩
    rw [Nat.mul_one] at htk ⊢
    have e3 : cur.toList.take k = (cur.toList.take l.length).take k := by rw [List.take_take, Nat.min_eq_left hk]
    rw [e3, htk]
    simp [i64s, List.map_take]
/-- A slice's length, for a measure. -/
def lenOf : Value → Nat | .slice _ n _ => n | _ => 0
/-- ref trim. -/
theorem refTrim_any (v : Value) (base : Nat) (l : List Nat) (w : World) (h : OwnI w base v l) :
    Calls Tryz.prog 133 #[v] w fun e w' => ∃ v', e = .returned v' ∧ OwnI w base v' (Cub.trimN l) ∧ w' = w := by
  obtain ⟨a, cap, rfl, hc, hm, hcells⟩ := h.open
  have H := hide h
  have HC := hide hcells
  clear h hcells
  obtain ⟨n, hn⟩ : ∃ n, n = l.length := ⟨_, rfl⟩
  rw [← hn] at H hc ⊢
  have HN := hide hn
  clear hn
  go_enter Tryz.func133, Tryz.ntmps133
  go_wp2
  go_loop [0] (fun t => ∃ k : Nat, k ≤ n ∧ t = .slice a k cap ∧ Hid (Cub.trimN (l.take k) = Cub.trimN l)) (fun t => lenOf t)
  case atStart => exact ⟨n, Nat.le_refl _, rfl, by rw [List.take_of_length_le (by have := unhide HN; omega)]; exact rfl⟩
  case round =>
    obtain ⟨k, hk, rfl, ht⟩ := hrel
    have HT := ht
    clear ht
    by_cases hk0 : k = 0
    · subst hk0
      have E : Hid (Cub.trimN l = l.take 0) := by rw [← unhide HT]; exact rfl
      go_wp2
      go_ret
      exact ⟨_, rfl, by rw [unhide E]; exact (unhide H).take 0 (Nat.zero_le _), rfl⟩
    · obtain ⟨j, rfl⟩ : ∃ j, k = j + 1 := ⟨k - 1, by omega⟩
      have hlt : j < l.length := by have := unhide HN; omega
      obtain ⟨b, rfl, hx⟩ := unhide HC w (Below.refl _ _) j hlt
      by_cases hz : l[j] = 0
      · rw [hz] at hx
        have E : Hid (Cub.trimN (l.take j) = Cub.trimN l) := by
          rw [← unhide HT, List.take_succ_eq_append_getElem hlt, hz, Cub.trimN_snoc_zero]; exact rfl
        clear hz
        go_wp2
        go_round
        case rel => exact ⟨j, by omega, by first | rfl | go_num, E⟩
        case measure => simp [lenOf]
      · have E : Hid (Cub.trimN l = l.take (j + 1)) := by
          rw [← unhide HT, List.take_succ_eq_append_getElem hlt, Cub.trimN_snoc _ _ hz]; exact rfl
        have hz' : ((l[j] : Int) == 0) = false := by rw [beq_eq_false_iff_ne]; omega
        clear hz
        go_wp2
        go_ret
        exact ⟨_, rfl, by rw [unhide E]; exact (unhide H).take (j + 1) hk, rfl⟩
end Go.Proofs.YtijifpbpjinmhaaGreatDoor
namespace Go.Proofs.YtijifpbpjinmhaaGreatDoor
open Go.RowKit
theorem cut4_start (l : List UInt8) (n : Nat) (h : l.length = n) : (n : Int) = (n : Int) - 4 * (([] : List Nat).length : Int) ∧ Cub.limbs 10000 [] ∧ Cub.lval 10000 [] = Cub.dval (l.drop (n - 4 * ([] : List Nat).length)) := by
  subst h
  refine ⟨by simp, fun _ h => (by cases h), ?_⟩
  simp [Cub.lval, Cub.dval]
theorem refLimbs_any (s : ByteArray) (w : World) (hs : s.size ≤ 1000000000) (hd : Cub.digs s.data.toList) :
    Calls Tryz.prog 119 #[.string s] w fun e w' => ∃ v l, e = .returned v ∧ OwnI w' w.heap.size v l ∧ Cub.normal 10000 l ∧ Cub.lval 10000 l = Cub.dval s.data.toList ∧ Below w.heap.size w w' := by
  have HD := hide hd
  clear hd
  obtain ⟨i0, hi, hz0, hz1, hz2⟩ := info_parts Tryz.info3
  go_enter Tryz.func119, Tryz.ntmps119
  go_wp2
  go_loopw [3, 4] (fun v i wr => ∃ (L : List Nat) (x : Int), i = .int .i64 x ∧ x ≤ 1000000000 ∧ -4 < x ∧ L.length ≤ 400000000 ∧ Hid (x = (s.size : Int) - 4 * (L.length : Int) ∧ Cub.limbs 10000 L ∧ Cub.lval 10000 L = Cub.dval (s.data.toList.drop (s.size - 4 * L.length))) ∧
      wr.ownsRow w.heap.size 3 1 v L.length (i64s L) ∧ Below w.heap.size w wr) (fun _ i _ => (intOf i).toNat)
  case atStart => exact ⟨[], (s.size : Int), rfl, by omega, by omega, by simp, cut4_start _ _ (list_len s), World.ownsRow_nil _ _ _ _, Below.refl _ _⟩
  case round =>
    obtain ⟨L, x, rfl, hx1, hx4, hLl, HX, hown, hb⟩ := hrel
    by_cases hx : 0 < x
    · obtain ⟨e, rfl⟩ := Int.eq_ofNat_of_zero_le (Int.le_of_lt hx)
      have he0 : Hid (e + 4 * L.length = s.size) := by have := (unhide HX).1; exact (by omega : e + 4 * L.length = s.size)
      have hes : e ≤ s.size := by have := unhide he0; omega
      have HDs : Hid (∀ k (hk : k < s.size), 48 ≤ s[k].toNat ∧ s[k].toNat ≤ 57) := fun k hk => unhide HD s[k] (by rw [← list_get s k hk]; exact List.getElem_mem _)
      by_cases h4 : 4 ≤ e
      all_goals
        go_wp2
        go_loop [6, 7] (fun y i => ∃ (k n : Nat), e - 4 ≤ k ∧ k ≤ e ∧ i = .int .i64 k ∧ y = .int .i64 n ∧ n < 10000 ∧ Hid (n = Cub.dval ((s.data.toList.drop (e - 4)).take (k - (e - 4))))) (fun _ i => e - (intOf i).toNat)
        case atStart => exact ⟨e - 4, 0, Nat.le_refl _, by omega, by go_num, rfl, by omega, by rw [Nat.sub_self]; exact rfl⟩
        case round =>
          obtain ⟨k, n, hk1, hk2, rfl, rfl, hn, HN⟩ := hrel
          by_cases hlt : k < e
          · have hks : k < s.size := by omega
            obtain ⟨d1, d2⟩ := unhide HDs k hks
            have HN' : Hid (10 * n + (s[k].toNat - 48) = Cub.dval ((s.data.toList.drop (e - 4)).take (k + 1 - (e - 4)))) := by
              rw [Cub.seg_succ _ _ _ hk1 (by rw [list_len]; exact hks), ← unhide HN, Nat.mul_comm]; exact rfl
            have hn' : 10 * n + (s[k].toNat - 48) < 10000 := by rw [unhide HN']; exact Cub.seg4_lt (unhide HD) _ _ (by omega)
            go_wp2
            go_round
            case rel => exact ⟨k + 1, 10 * n + (s[k].toNat - 48), by omega, by omega, by go_num, by go_num, hn', HN'⟩
            case measure => simp [intOf]; omega
          · have hke : k = e := by omega
            subst hke
            clear hlt
            go_wp2_with (at_builtin; refine wpList_append_own _ rfl _ _ 138 rfl w.heap.size 3 i0 (.int .i64 0) 1 8 Tryz.underlying138 hi hz0 hz1 hz2 rfl (by decide) _ _ _ rfl (hown.alloc _) ⟨wr.heap.size, 0, none⟩ 1 1 [.int .i64 (n : Int)] rfl rfl (cell_one_new _ _ _) (fun x hx => by simp at hx; subst hx; rfl) (by unfold maxLen; omega) (by omega) (by have := hb.size; simp at this ⊢; omega) ?_; intro v' w1 hown' hgrow _)
            have hsz := hb.size
            have hb' : Below w.heap.size w w1 := (hb.alloc hsz _).grown hgrow (by simp; omega) (fun j hj => (hown.lt j hj).1)
            have hown2 : w1.ownsRow w.heap.size 3 1 v' (L ++ [n]).length (i64s (L ++ [n])) := by simpa [i64s] using hown'
            have HS := Cub.cut4_step s.data.toList L k (k - 4) (by rw [list_len]; exact unhide he0) rfl (unhide HD) (unhide HX).2.1 (by have := (unhide HX).2.2; rw [this]; congr 2; have := unhide he0; omega)
            rw [← unhide HN] at HS
            have HS' := hide HS
            clear hgrow hown' HS hown hsz
            go_wp2
            go_roundw
            case rel => exact ⟨L ++ [n], (k : Int) - 4, rfl, by omega, by omega, by have := unhide he0; simp; omega, ⟨by have := unhide he0; simp; omega, (unhide HS').1, by rw [(unhide HS').2]; congr 2; have := unhide he0; simp; omega⟩, hown2, hb'⟩
            case measure => simp [intOf]; omega
    · have hfin : Cub.lval 10000 (Cub.trimN L) = Cub.dval s.data.toList ∧ Cub.normal 10000 (Cub.trimN L) := by
        obtain ⟨h1, h2, h3⟩ := unhide HX
        obtain ⟨t1, t2, _⟩ := Cub.lval_trim 10000 _ L rfl
        refine ⟨?_, t2 h2⟩
        rw [t1, h3, show s.size - 4 * L.length = 0 by omega, List.drop_zero]
      have HF := hide hfin
      have HO : Hid (OwnI wr w.heap.size u3 L) := hown
      clear hfin hown
      go_wp2_with (go_at_call 133; refine (refTrim_any _ _ L _ (unhide HO)).mono ?_; rintro e w2 ⟨v', rfl, hrow2, rfl⟩)
      go_ret
      exact ⟨v', _, rfl, hrow2, (unhide HF).2, (unhide HF).1, hb⟩
end Go.Proofs.YtijifpbpjinmhaaGreatDoor
namespace Cub
open Go.Lib (decDigits)
/-- All four digits of each limb, the last limb ahead. -/
def padAll : List Nat → List UInt8
  | [] => []
  | x :: t => padAll t ++ padn 4 x
theorem padAll_drop (l : List Nat) (i : Nat) (hi : i < l.length) : padAll (l.drop i) = padAll (l.drop (i + 1)) ++ padn 4 l[i] := by
  rw [List.drop_eq_getElem_cons hi]; rfl
theorem padn_digs (k : Nat) : ∀ d, digs (padn k d) := by
  induction k with
  | zero => intro d; exact digs_nil
  | succ k ih =>
    intro d
    refine digs_append.2 ⟨ih _, fun c hc => ?_⟩
    rw [List.mem_singleton] at hc; subst hc; rw [toNat_dig _ (by omega)]; omega
theorem padAll_digs (l : List Nat) : digs (padAll l) := by
  induction l with
  | nil => exact digs_nil
  | cons x t ih => exact digs_append.2 ⟨ih, padn_digs 4 x⟩
theorem padn_val (k : Nat) : ∀ d, d < 10 ^ k → dval (padn k d) = d := by
  induction k with
  | zero => intro d h; have : d = 0 := by simpa using h
            subst this; rfl
  | succ k ih =>
    intro d h
    simp only [padn]
    rw [dval_snoc, ih _ (by rw [Nat.pow_succ] at h; omega), toNat_dig _ (by omega)]; omega
theorem padAll_val (l : List Nat) (h : limbs 10000 l) : dval (padAll l) = lval 10000 l := by
  induction l with
  | nil => rfl
  | cons x t ih =>
    simp only [padAll, lval]
    rw [dval_append, padn_length, ih (fun y hy => h y (List.mem_cons_of_mem _ hy)), padn_val 4 x (h x (by simp))]; omega
theorem pad4 (x : Nat) (h : x < 10000) : padn 4 x = [UInt8.ofNat (48 + x / 1000), UInt8.ofNat (48 + x / 100 % 10), UInt8.ofNat (48 + x / 10 % 10), UInt8.ofNat (48 + x % 10)] := by
  simp only [padn, List.nil_append, List.cons_append, Nat.div_div_eq_div_mul]
  rw [show x / (10 * (10 * 10)) % 10 = x / 1000 from by omega]
theorem dval_noughts (k : Nat) : dval (List.replicate k 48) = 0 := by
  induction k with
  | zero => rfl
  | succ k ih => rw [List.replicate_succ, dval_cons, ih]; simp
/-- Noughts ahead left out. -/
theorem strip_noughts (P : List UInt8) (k : Nat) (hk : k < P.length) (hd : digs P) (h0 : ∀ j (hj : j < P.length), j < k → P[j] = 48) (h1 : P[k] ≠ 48) : P.drop k = decDigits (dval P) := by
  have e1 : dval P = dval (P.drop k) := by
    have e2 : P.take k = List.replicate k 48 := by
      apply List.ext_getElem
      · simp; omega
      · intro j h1 h2
        simp only [List.getElem_take, List.getElem_replicate]
        exact h0 j (by simp at h1; omega) (by simp at h1; omega)
    have e3 := dval_noughts k
    have := dval_append (P.take k) (P.drop k)
    rw [List.take_append_drop, e2, e3] at this
    simpa using this
  rw [e1]
  refine (dec_dval _ _ rfl ⟨fun c hc => hd c (List.mem_of_mem_drop hc), ?_, fun h => ?_⟩).symm
  · intro e; have := congrArg List.length e; simp at this; omega
  · rw [List.head?_drop, List.getElem?_eq_getElem hk, Option.some.injEq] at h; exact absurd h h1
theorem some_digit (P : List UInt8) (h : 0 < dval P) : ∃ j, ∃ hj : j < P.length, P[j] ≠ 48 := by
  apply Decidable.byContradiction
  intro hn
  have h0 : ∀ j (hj : j < P.length), P[j] = 48 := fun j hj => Decidable.byContradiction fun h1 => hn ⟨j, hj, h1⟩
  have : dval P = 0 := by
    clear h hn
    induction P with
    | nil => rfl
    | cons x t ih =>
      rw [dval_cons, ih (fun j hj => h0 (j + 1) (by simpa using hj))]
      have := h0 0 (by simp)
      simp at this; subst this; simp
  omega
end Cub
namespace Go.Proofs.YtijifpbpjinmhaaGreatDoor
open Go.RowKit
theorem step_append_own {P : Program} {ops : Array Oper} {o : Oper} {a : Act} {w : World} {K : Act → World → Prop} {Q : Exit → Act → World → Prop} {E : Prop}
    (hg : o.guard = none) (s x : Operand) (t : TypeId) (ho : o.op = .call { callee := .builtin .append, args := #[s, x], argTypes := #[t, t] })
    (base : Nat) (e : TypeId) (i : TypeInfo) (z : Value) (size bytes : Nat) (ht : P.underlying t = some (.slice e)) (hi : P.info? e = some i) (hz : i.zero = some z)
    (hsize : i.size = size) (hby : i.bytes = bytes) (hzs : z.cells.size = size) (hsz : 0 < size)
    (v : Value) (n : Nat) (xs : List Value) (hs : a.eval s = v) (hown : w.ownsRow base e size v n xs)
    (ad : Addr) (m c : Nat) (news : List Value) (hx : a.eval x = .slice (some ad) m c) (hl : news.length = m * size) (hnews : ∀ j u, news[j]? = some u → w.cell? (ad.add j) = some u) (h1 : ∀ u ∈ news, u.oneCell' = true)
    (h63 : n + m ≤ maxLen) (hbytes : (n + m) * bytes ≤ 140737488355328) (hbase : base ≤ w.heap.size)
    (h : ∀ v' w', w'.ownsRow base e size v' (n + m) (xs ++ news) → w.grownBy w' v.ownBlock → K (a.put o.dst v') w') :
    if Region.wanted o (yielded ops a.tmps) = true then Oper.wp P o a w K Q else E := by
  have hw : Region.wanted o (yielded ops a.tmps) = true := by simp [Region.wanted, hg]
  rw [if_pos hw]
  exact wp_append_own w s x t ho base e i z size bytes ht hi hz hsize hby hzs hsz v n xs hs hown ad m c news hx hl hnews h1 h63 hbytes hbase fun v' w' h2 h3 _ => h v' w' h2 h3
end Go.Proofs.YtijifpbpjinmhaaGreatDoor
namespace Go.Proofs.YtijifpbpjinmhaaGreatDoor
open Go.RowKit
/-- Four bytes of a limb. -/
def four (x : Nat) : List Value := [Value.int .u8 (48 + (x : Int) / 1000), .int .u8 (48 + (x : Int) / 100 % 10), .int .u8 (48 + (x : Int) / 10 % 10), .int .u8 (48 + (x : Int) % 10)]
theorem byteCells_pad (l : List UInt8) (x : Nat) (h : x < 10000) : Lib.byteCells l ++ four x = Lib.byteCells (l ++ Cub.padn 4 x) := by
  rw [Lib.byteCells_append, Cub.pad4 x h]
  congr 1
  simp only [Lib.byteCells, List.map_cons, List.map_nil, four]
  rw [Cub.toNat_dig _ (by omega), Cub.toNat_dig _ (by omega), Cub.toNat_dig _ (by omega), Cub.toNat_dig _ (by omega)]
  rfl
/-- The same as the region spells them. -/
def fourW (x : Nat) : List Value := [Value.int .u8 (IntKind.u8.wrap (IntKind.i64.wrap (48 + IntKind.i64.wrap ((x : Int) / 1000)))), Value.int .u8 (IntKind.u8.wrap (IntKind.i64.wrap (48 + (IntKind.i64.wrap ((x : Int) / 100)).tmod 10))), Value.int .u8 (IntKind.u8.wrap (IntKind.i64.wrap (48 + (IntKind.i64.wrap ((x : Int) / 10)).tmod 10))), Value.int .u8 (IntKind.u8.wrap (IntKind.i64.wrap (48 + (x : Int).tmod 10)))]
theorem w64 (n : Int) (h0 : 0 ≤ n) (h1 : n ≤ 100000) : IntKind.i64.wrap n = n := IntWalk.i64_in _ ⟨by omega, by omega⟩
theorem w8 (n : Int) (h0 : 0 ≤ n) (h1 : n ≤ 255) : IntKind.u8.wrap n = n := by rw [IntKind.wrap_u8]; omega
theorem tm (n : Int) (h0 : 0 ≤ n) : n.tmod 10 = n % 10 := Int.tmod_eq_emod_of_nonneg h0
theorem fourW_eq (x : Nat) (h : x < 10000) : fourW x = four x := by
  unfold fourW four
  rw [w64 ((x : Int) / 1000) (by omega) (by omega), w64 ((x : Int) / 100) (by omega) (by omega), w64 ((x : Int) / 10) (by omega) (by omega), tm ((x : Int) / 100) (by omega), tm ((x : Int) / 10) (by omega), tm (x : Int) (by omega)]
  rw [w64 _ (by omega) (by omega), w64 _ (by omega) (by omega), w64 _ (by omega) (by omega), w64 _ (by omega) (by omega)]
  rw [w8 _ (by omega) (by omega), w8 _ (by omega) (by omega), w8 _ (by omega) (by omega), w8 _ (by omega) (by omega)]
theorem cells4 (W : World) (x : Nat) : ∀ j u, (fourW x)[j]? = some u → ((W.alloc (.cells #[Value.int .u8 (IntKind.u8.wrap (IntKind.i64.wrap (48 + IntKind.i64.wrap ((x : Int) / 1000)))), Value.int .u8 (IntKind.u8.wrap (IntKind.i64.wrap (48 + (IntKind.i64.wrap ((x : Int) / 100)).tmod 10))), Value.int .u8 (IntKind.u8.wrap (IntKind.i64.wrap (48 + (IntKind.i64.wrap ((x : Int) / 10)).tmod 10))), Value.int .u8 (IntKind.u8.wrap (IntKind.i64.wrap (48 + (x : Int).tmod 10)))] 5)).drew).cell? ((⟨W.heap.size, 0, none⟩ : Addr).add j) = some u := by
  intro j u hj
  rw [Lib.add_plain, Nat.zero_add]
  show (W.alloc _).cell? _ = _
  rw [World.cell?_alloc_at _ _ _ _ rfl]
  unfold fourW at hj
  simpa using hj
theorem refText_any (v : Value) (base : Nat) (l : List Nat) (w : World) (h : OwnI w base v l) (hn : Cub.normal 10000 l) (hl : l.length ≤ 1000000) :
    Calls Tryz.prog 117 #[v] w fun e w' => e = .returned (.string ⟨(Lib.decDigits (Cub.lval 10000 l)).toArray⟩) ∧ Below w.heap.size w w' := by
  obtain ⟨a, cap, rfl, hc, hm, hcells⟩ := h.open
  have HC := hide hcells
  have HN := hide hn
  obtain ⟨n, hnl⟩ : ∃ n, n = l.length := ⟨_, rfl⟩
  rw [← hnl] at hl hc ⊢
  have HL := hide hnl
  clear h hcells hn hnl
  by_cases h0 : n = 0
  · subst h0
    have hl0 : l = [] := List.length_eq_zero_iff.1 (unhide HL).symm
    have HE : Hid (Lib.decDigits (Cub.lval 10000 l) = [48]) := by rw [hl0]; exact (by decide +kernel : Lib.decDigits (Cub.lval 10000 []) = [48])
    rw [unhide HE]
    clear hl0
    go_enter Tryz.func117, Tryz.ntmps117
    go_wp2
    go_ret
    exact ⟨rfl, Below.refl _ _⟩
  · have hz : ((n : Int) == 0) = false := by rw [beq_eq_false_iff_ne]; omega
    obtain ⟨i5, hi5, hz50, hz51, hz52⟩ := info_parts Tryz.info5
    go_enter Tryz.func117, Tryz.ntmps117
    go_wp2_with (at_make; refine wpList_make_own _ rfl _ _ 46 rfl w.heap.size 5 i5 (.int .u8 0) 1 Tryz.underlying46 hi5 hz50 hz51 .i64 .i64 _ (4 * n) rfl rfl (by omega) (by rw [hz52]; omega) (by unfold maxLen; omega) (Nat.le_refl _) ?_; intro w3 hown3 hgrow3)
    have hb3 : Below w.heap.size w w3 := (Below.refl _ _).grown hgrow3 (Nat.le_refl _) (fun k hk => by cases hk)
    have hst : w3.ownsRow w.heap.size 5 1 (.slice (some ⟨w.heap.size, 0, none⟩) 0 (4 * n)) 0 (Lib.byteCells []) := hown3
    clear hown3 hgrow3
    go_loopw [3, 4] (fun v i wr => ∃ (j : Nat) (P : List UInt8), j ≤ n ∧ i = .int .i64 ((j : Int) - 1) ∧ Hid (P.length = 4 * (n - j)) ∧ Hid (P = Cub.padAll (l.drop j)) ∧ wr.ownsRow w.heap.size 5 1 v P.length (Lib.byteCells P) ∧ Below w.heap.size w wr) (fun _ i _ => (intOf i + 1).toNat)
    case atStart => exact ⟨n, [], Nat.le_refl _, rfl, by rw [Nat.sub_self]; exact rfl, by rw [List.drop_of_length_le (by have := unhide HL; omega)]; exact rfl, hst, hb3⟩
    case round =>
      obtain ⟨j, P, hj, rfl, HPl, HP, hown, hb⟩ := hrel
      have hP2 : P.length ≤ 4 * (n - j) := by have := unhide HPl; omega
      clear hst hb3
      by_cases hj0 : j = 0
      · subst hj0
        have hnm := unhide HN
        have HV : Hid (Cub.dval P = Cub.lval 10000 l) := by rw [unhide HP, List.drop_zero, Cub.padAll_val l hnm.1]; exact rfl
        have hdg : Cub.digs P := by rw [unhide HP]; exact Cub.padAll_digs _
        have hpos : 0 < Cub.dval P := by
          rw [unhide HV]
          rcases Nat.eq_zero_or_pos (Cub.lval 10000 l) with h | h
          · have := (Cub.normal_zero hnm (by decide)).1 h
            have h2 := unhide HL
            rw [this] at h2; simp at h2; omega
          · exact h
        obtain ⟨jd, hjd, hne⟩ := Cub.some_digit P hpos
        have hP4 : P.length = 4 * n := by have := unhide HPl; omega
        obtain ⟨g, cg, rfl⟩ := Joins.ownsRow_form hown (by omega)
        have HCell : Hid (∀ q (hq : q < P.length), wr.cell? ⟨g, q, none⟩ = some (.int .u8 (P[q].toNat : Int))) := fun q hq => by
          rw [hown.cellAt q (by simpa using hq)]
          simp [Lib.byteCells, hq]
        obtain ⟨_, hcg, hcm⟩ : True ∧ P.length ≤ cg ∧ cg ≤ 9223372036854775807 := by
          rcases hown.2 with ⟨e, _⟩ | ⟨g', c', cur, e, _, _, hcap, hmax, _⟩
          · simp at e
          · simp only [Value.slice.injEq] at e; obtain ⟨_, _, rfl⟩ := e; exact ⟨trivial, hcap, hmax⟩
        have HDg := hide hdg
        have HNe := hide hne
        have hP5 : P.length ≤ 4 * n := by omega
        clear hnm hdg hpos hne hown hP2 hP4
        go_wp2
        go_loop [5] (fun t => ∃ k : Nat, k ≤ jd ∧ t = .int .i64 (k : Int) ∧ Hid (∀ q (hq : q < P.length), q < k → P[q] = 48)) (fun t => jd - (intOf t).toNat)
        case atStart => exact ⟨0, Nat.zero_le _, rfl, fun q _ h => absurd h (Nat.not_lt_zero _)⟩
        case round =>
          obtain ⟨k, hk, rfl, HK⟩ := hrel
          have hkP : k < P.length := by omega
          have hx := unhide HCell k hkP
          by_cases h48 : P[k] = 48
          · have hkj : k < jd := by
              rcases Nat.lt_or_ge k jd with h | h
              · exact h
              · exfalso
                have e : k = jd := by omega
                subst e
                exact unhide HNe h48
            have HK' : Hid (∀ q (hq : q < P.length), q < k + 1 → P[q] = 48) := fun q hq h => by
              by_cases e : q < k
              · exact unhide HK q hq e
              · have : q = k := by omega
                subst this; exact h48
            have h48' : ((P[k].toNat : Int) == 48) = true := by rw [beq_iff_eq]; exact (byte_48 _).2 h48
            clear h48
            go_wp2
            go_round
            case rel => exact ⟨k + 1, by omega, by go_num, HK'⟩
            case measure => simp [intOf]; omega
          · have h48' : ((P[k].toNat : Int) == 48) = false := by rw [beq_eq_false_iff_ne]; exact fun h => h48 ((byte_48 _).1 h)
            have HE : Hid (P.drop k = Lib.decDigits (Cub.lval 10000 l)) := by rw [← unhide HV]; exact Cub.strip_noughts P k hkP (unhide HDg) (unhide HK) h48
            have hcv := run_convert_bytes_back (P := Tryz.prog) wr 46 9 5 ⟨g, k, none⟩ (cg - k) (P.drop k) Tryz.underlying46 Tryz.underlying5 Tryz.underlying9 (fun q hq => by
              rw [Lib.add_plain, unhide HCell (k + q) (by rw [List.length_drop] at hq; omega), List.getElem_drop])
            rw [List.length_drop] at hcv
            clear h48
            go_wp2
            go_ret
            exact ⟨by rw [← unhide HE]; rfl, hb⟩
      · obtain ⟨i, rfl⟩ : ∃ i, j = i + 1 := ⟨j - 1, by omega⟩
        have hil : i < l.length := by have := unhide HL; omega
        obtain ⟨d, hd⟩ : ∃ d, d = l[i] := ⟨_, rfl⟩
        have hdB : d < 10000 := by rw [hd]; exact (unhide HN).1 _ (List.getElem_mem hil)
        obtain ⟨b, rfl, hx⟩ := unhide HC wr hb i hil
        rw [← hd] at hx
        have HD := hide hd
        have hin : (i : Int) < (n : Int) := by omega
        have hbw : b < wr.heap.size := World.block_lt_of_cell? wr ⟨b, i, none⟩ hx
        have hbo : some b ≠ u3.ownBlock := by
          intro e
          obtain ⟨b', eb, hx'⟩ := unhide HC w (Below.refl _ _) i hil
          simp only [Option.some.injEq, Addr.mk.injEq] at eb
          have h1 := World.block_lt_of_cell? w ⟨b', i, none⟩ hx'
          have h2 := (hown.lt b e.symm).1
          have h3 : b' < w.heap.size := h1
          omega
        have hl1 : P.length + 4 ≤ maxLen := by unfold maxLen; omega
        have hl2 : (P.length + 4) * 1 ≤ 140737488355328 := by omega
        have hl3 : w.heap.size ≤ wr.heap.size := hb.size
        have hl4 : ∀ W : World, w.heap.size ≤ wr.heap.size → W.heap.size = wr.heap.size → ∀ o, w.heap.size ≤ (W.alloc o).heap.size := fun W h1 h2 o => by simp; omega
        have hone : ∀ u ∈ fourW d, u.oneCell' = true := by
          intro u hu
          simp only [fourW, List.mem_cons, List.not_mem_nil, or_false] at hu
          rcases hu with rfl | rfl | rfl | rfl <;> rfl
        clear hd hj0
        rw [show (((i + 1 : Nat) : Int) - 1) = (i : Int) from by omega]
        go_wp2
        go_region_held_law (fun w' => w'.cell? ⟨b, i, none⟩ = some (.int .i64 (d : Int))) (first | go_keep | exact hgrow.cell (by simp [*]) hbo) (first | (refine step_append_own rfl _ _ 46 rfl w.heap.size 5 i5 (.int .u8 0) 1 1 Tryz.underlying46 hi5 hz50 hz51 hz52 rfl (by decide) _ _ _ rfl (hown.alloc _).drew ⟨wr.heap.size, 0, none⟩ 4 4 (fourW d) rfl rfl (cells4 _ _) hone hl1 hl2 (hl4 _ hl3 rfl _) ?_; intro v' w1 hown' hgrow))
        have hsz1 : w.heap.size ≤ w1.heap.size := by have := hgrow.size; simp at this; omega
        have hb1 : Below w.heap.size w w1 := ((hb.alloc hb.size _).drew).grown hgrow (by simp; omega) (fun k hk => (hown.lt k hk).1)
        have hownN : w1.ownsRow w.heap.size 5 1 v' (P ++ Cub.padn 4 d).length (Lib.byteCells (P ++ Cub.padn 4 d)) := by
          rw [← byteCells_pad P d hdB, ← fourW_eq d hdB]
          rw [List.length_append, Cub.padn_length]
          exact hown'
        have HPN : Hid (P ++ Cub.padn 4 d = Cub.padAll (l.drop i)) := by
          rw [Cub.padAll_drop l i hil, ← unhide HP, ← unhide HD]; exact rfl
        have HPLN : Hid ((P ++ Cub.padn 4 d).length = 4 * (n - i)) := by
          rw [List.length_append, Cub.padn_length]; have := unhide HPl; exact (by omega : P.length + 4 = 4 * (n - i))
        clear hown' hgrow hown hb hone hl1 hl2 hl3 hl4 hx
        go_wp2
        go_roundw
        case rel => exact ⟨i, P ++ Cub.padn 4 d, by omega, rfl, HPLN, HPN, hownN, hb1⟩
        case measure => simp [intOf]
end Go.Proofs.YtijifpbpjinmhaaGreatDoor
namespace Cub
theorem len_leB {B : Nat} (hB : 1 < B) {l : List Nat} {k : Nat} (h : normal B l) (hk : lval B l < B ^ k) : l.length ≤ k := by
  by_cases hne : l = []
  · subst hne; simp
  · have h1 := normal_ge h hne
    have h2 := (Nat.pow_lt_pow_iff_right hB).1 (Nat.lt_of_le_of_lt h1 hk)
    omega
theorem len_le4 {l : List Nat} {d : List UInt8} (hd : digs d) (h : normal 10000 l) (hv : lval 10000 l = dval d) : l.length ≤ d.length := by
  apply len_leB (by decide) h
  rw [hv]
  have h1 := dval_lt hd
  have h2 : 10 ^ d.length ≤ 10000 ^ d.length := Nat.pow_le_pow_left (by decide) _
  omega
end Cub
namespace Go.Proofs.YtijifpbpjinmhaaGreatDoor
open Go.RowKit
end Go.Proofs.YtijifpbpjinmhaaGreatDoor
namespace Cub
end Cub
namespace Go.Proofs.YtijifpbpjinmhaaGreatDoor
open Go.RowKit
theorem i64s_set (l : List Nat) (i x : Nat) : (i64s l).set i (.int .i64 (x : Int)) = i64s (l.set i x) := by simp [i64s, List.map_set]
end Go.Proofs.YtijifpbpjinmhaaGreatDoor

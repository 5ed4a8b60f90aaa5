/- Plain facts: the text of a number of limbs, limb by limb. -/
import Derived.Test.YtimihoonnglniaaGreatDoorLimb
import Derived.Laws.CopyOwn
import Derived.Lib.SmallJoins
import Derived.OneCell
namespace Go.Proofs.YtimihoonnglniaaGreatDoor
open Go.RowKit

/-- Limbs as cells. -/
def u64s (l : List Nat) : List Value := l.map fun x : Nat => Value.int .u64 (x : Int)
theorem u64s_length (l : List Nat) : (u64s l).length = l.length := by simp [u64s]
theorem u64s_get (l : List Nat) (i : Nat) (h : i < l.length) : (u64s l)[i]? = some (.int .u64 (l[i] : Int)) := by simp [u64s, h]

/-- A slice value holds a list of limbs. -/
def Row (w : World) (v : Value) (l : List Nat) : Prop :=
  ∃ a cap, v = .slice a l.length cap ∧ l.length ≤ cap ∧ cap ≤ maxLen ∧ (l ≠ [] → ∃ b o, a = some ⟨b, o, none⟩ ∧ b < w.heap.size ∧ ∀ i (h : i < l.length), w.cell? ⟨b, o + i, none⟩ = some (.int .u64 (l[i] : Int)))

theorem Row.later {w w' : World} {v : Value} {l : List Nat} (h : Row w v l) (hb : Below w.heap.size w w') : Row w' v l := by
  obtain ⟨a, cap, rfl, hc, hm, hr⟩ := h
  refine ⟨a, cap, rfl, hc, hm, fun hne => ?_⟩
  obtain ⟨b, o, rfl, hlt, hcell⟩ := hr hne
  have := hb.size
  exact ⟨b, o, rfl, by omega, fun i hi => (hb.cell (p := ⟨b, o + i, none⟩) hlt).trans (hcell i hi)⟩

theorem Row.nil (w : World) : Row w (.slice none 0 0) [] := ⟨none, 0, rfl, Nat.le_refl _, Nat.zero_le _, fun h => absurd rfl h⟩

/-- The first ones of a row. -/
theorem Row.take {w : World} {a : Option Addr} {n cap : Nat} {l : List Nat} (h : Row w (.slice a n cap) l) (k : Nat) (hk : k ≤ n) : Row w (.slice a k cap) (l.take k) := by
  obtain ⟨a', cap', e, hc, hm, hr⟩ := h
  simp only [Value.slice.injEq] at e
  obtain ⟨rfl, rfl, rfl⟩ := e
  have hl : (l.take k).length = k := by rw [List.length_take]; omega
  refine ⟨a, cap, by rw [hl], by omega, hm, fun hne => ?_⟩
  obtain ⟨b, o, rfl, hlt, hcell⟩ := hr (fun e => hne (by rw [e]; simp))
  refine ⟨b, o, rfl, hlt, fun i hi => ?_⟩
  rw [List.getElem_take]
  exact hcell i (by omega)

/-- What the call owns is a row. -/
theorem Row.of_own {w : World} {base : Nat} {v : Value} {n : Nat} {l : List Nat} (h : w.ownsRow base 64 1 v n (u64s l)) : Row w v l := by
  have hn : l.length = n := by have := h.1; rw [u64s_length] at this; omega
  rcases Joins.ownsRow_forms h with ⟨rfl, h0⟩ | ⟨g, cap, rfl⟩
  · have : l = [] := List.length_eq_zero_iff.1 (by omega)
    subst this; exact Row.nil w
  · obtain ⟨hx, h2⟩ := id h
    rcases h2 with ⟨e, _⟩ | ⟨g', cap', cur, e, hb, hg, hcap, hmax, hsz, htk⟩
    · cases e
    · simp only [Value.slice.injEq, Option.some.injEq, Addr.mk.injEq] at e
      obtain ⟨⟨rfl, _⟩, _, rfl⟩ := e
      refine ⟨some ⟨g, 0, none⟩, cap, by rw [hn], by omega, hmax, fun _ => ⟨g, 0, rfl, (Array.getElem?_eq_some_iff.1 hg).1, fun i hi => ?_⟩⟩
      have := h.cellAt i (by omega)
      rw [u64s_get l i hi] at this
      simpa using this

/-- A Big holds a number. -/
def IsBig (w : World) (v : Value) (n : Nat) : Prop := ∃ s l, v = .agg #[s] ∧ Row w s l ∧ Cub.normal 1000000000 l ∧ Cub.lval 1000000000 l = n

theorem IsBig.later {w w' : World} {v : Value} {n : Nat} (h : IsBig w v n) (hb : Below w.heap.size w w') : IsBig w' v n := by
  obtain ⟨s, l, rfl, hr, hn, hv⟩ := h
  exact ⟨s, l, rfl, hr.later hb, hn, hv⟩

/-- Block g holds just these limbs. -/
def Own (w : World) (g : Nat) (l : List Nat) : Prop := w.heap[g]? = some (.cells (u64s l).toArray 64 (0, 0))

theorem Own.of_row {w : World} {base g n : Nat} {l : List Nat} (h : w.ownsRow base 64 1 (.slice (some ⟨g, 0, none⟩) n n) n (u64s l)) : Own w g l := by
  obtain ⟨hx, h2⟩ := h
  rcases h2 with ⟨e, _⟩ | ⟨g', cap', cur, e, hb, hg, hcap, hmax, hsz, htk⟩
  · cases e
  · simp only [Value.slice.injEq, Option.some.injEq, Addr.mk.injEq] at e
    obtain ⟨⟨rfl, _⟩, _, rfl⟩ := e
    have e2 : cur.toList = u64s l := by rw [← htk, List.take_of_length_le (by simp [hsz])]
    unfold Own
    rw [hg, ← e2]
theorem Own.lt {w : World} {g : Nat} {l : List Nat} (h : Own w g l) : g < w.heap.size := (Array.getElem?_eq_some_iff.1 h).1
theorem Own.cell {w : World} {g : Nat} {l : List Nat} (h : Own w g l) (i : Nat) (hi : i < l.length) : w.cell? ⟨g, i, none⟩ = some (.int .u64 (l[i] : Int)) := by
  unfold Own at h
  simp [World.cell?, h, u64s, hi]
theorem Own.frozen {w : World} {g : Nat} {l : List Nat} (h : Own w g l) (i : Nat) : w.frozen? ⟨g, i, none⟩ = false := by
  unfold Own at h
  simp [World.frozen?, h]
theorem Own.set {w : World} {g : Nat} {l : List Nat} (h : Own w g l) (i : Nat) (x : Nat) : Own (w.setCell ⟨g, i, none⟩ (.int .u64 (x : Int))) g (l.set i x) := by
  unfold Own at h ⊢
  simp only [World.setCell, Array.getElem?_modify, h, Option.map_some]
  simp [u64s, List.map_set]
theorem Own.later {w w' : World} {g B : Nat} {l : List Nat} (h : Own w g l) (hb : Below B w w') (hg : g < B) : Own w' g l := (hb.block g hg).trans h
theorem Own.row {w : World} {g : Nat} {l : List Nat} (h : Own w g l) (n cap : Nat) (hn : n = l.length) (hc : n ≤ cap) (hm : cap ≤ maxLen) : Row w (.slice (some ⟨g, 0, none⟩) n cap) l := by
  subst hn
  exact ⟨some ⟨g, 0, none⟩, cap, rfl, hc, hm, fun _ => ⟨g, 0, rfl, h.lt, fun i hi => by rw [Nat.zero_add]; exact h.cell i hi⟩⟩
theorem u64s_made (n : Nat) : (madeCells (Value.int .u64 0).cells (n * 1)).toList = u64s (List.replicate n 0) := by
  rw [show (Value.int .u64 0).cells = #[Value.int .u64 0] from rfl, toList_madeCells_one]
  simp [u64s]

/-- A result's box, later. -/
theorem box_later {w w' : World} {g : Nat} {x : Value} (hb : Below w.heap.size w w') (hg : g < w.heap.size) (hc : w.cell? ⟨g, 0, none⟩ = some x) (hf : w.frozen? ⟨g, 0, none⟩ = false) :
    w'.cell? ⟨g, 0, none⟩ = some x ∧ w'.frozen? ⟨g, 0, none⟩ = false :=
  ⟨(hb.cell (p := ⟨g, 0, none⟩) hg).trans hc, (hb.frozen (p := ⟨g, 0, none⟩) hg).trans hf⟩

theorem Row.form {w : World} {v : Value} {l : List Nat} (h : Row w v l) : ∃ a cap, v = .slice a l.length cap ∧ l.length ≤ cap ∧ cap ≤ 9223372036854775807 := by
  obtain ⟨a, cap, rfl, hc, hm, _⟩ := h
  exact ⟨a, cap, rfl, hc, hm⟩

/-- A store into a cell that holds no limb leaves every row. -/
theorem Row.box {w : World} {v : Value} {l : List Nat} (h : Row w v l) {p : Addr} {x : Value} (u : Value) (hp : w.cell? p = some x) (hx : ∀ k n, x ≠ .int k n) : Row (w.setCell p u) v l := by
  obtain ⟨a, cap, rfl, hc, hm, hr⟩ := h
  refine ⟨a, cap, rfl, hc, hm, fun h0 => ?_⟩
  obtain ⟨b, o, rfl, hlt, hcell⟩ := hr h0
  refine ⟨b, o, rfl, by simpa [World.setCell] using hlt, fun i hi => ?_⟩
  rw [World.cell?_setCell_other _ _ _ _ (by
    intro e
    have h1 := hcell i hi
    rw [← e, hp, Option.some.injEq] at h1
    exact hx _ _ h1)]
  exact hcell i hi

theorem IsBig.box {w : World} {v : Value} {n : Nat} (h : IsBig w v n) {p : Addr} {x : Value} (u : Value) (hp : w.cell? p = some x) (hx : ∀ k n, x ≠ .int k n) : IsBig (w.setCell p u) v n := by
  obtain ⟨s, l, rfl, hr, hn, hv⟩ := h
  exact ⟨s, l, rfl, hr.box u hp hx, hn, hv⟩
theorem IsBig.shape {w : World} {v : Value} {n : Nat} (h : IsBig w v n) : ∃ a len cap, v = .agg #[.slice a len cap] := by
  obtain ⟨s, l, rfl, hr, hn, hv⟩ := h
  obtain ⟨a, cap, rfl, _⟩ := hr
  exact ⟨a, _, cap, rfl⟩
theorem no_int (a : Option Addr) (n c : Nat) : ∀ k m, Value.slice a n c ≠ .int k m := fun _ _ h => by cases h
theorem IsBig.zero (w : World) : IsBig w (.agg #[.slice none 0 0]) 0 := ⟨_, [], rfl, Row.nil w, Cub.normal_nil _, rfl⟩

set_option maxHeartbeats 400000 in
/-- nat.trim: noughts at the top are left out. -/
theorem trim_any (v : Value) (l : List Nat) (w : World) (h : Row w v l) :
    Calls Tryz.prog 80 #[v] w fun e w' => ∃ v', e = .returned (.agg #[v']) ∧ Row w' v' (Cub.trimN l) ∧ Below w.heap.size w w' := by
  have H := hide h
  obtain ⟨a, cap, rfl, hc, hm, hr⟩ := h
  have HR := hide hr
  clear hr
  unfold maxLen at hm
  go_enter Tryz.func80, Tryz.ntmps80
  go_wp2
  go_loop [3] (fun n => ∃ k : Nat, k ≤ l.length ∧ n = .int .i64 k ∧ Hid (Cub.trimN (l.take k) = Cub.trimN l)) (fun n => (intOf n).toNat)
  case atStart => exact ⟨l.length, Nat.le_refl _, rfl, by rw [List.take_length]; exact rfl⟩
  case round =>
    obtain ⟨k, hk, rfl, ht⟩ := hrel
    by_cases hk0 : k = 0
    · subst hk0
      have e : Cub.trimN l = l.take 0 := by rw [← unhide ht]; rfl
      have E := hide e
      clear e ht
      go_wp2
      refine bodyPost_ret (v := .agg #[.slice a 0 cap]) (by simp [results, Tryz.results80, go_sem]) rfl ⟨_, rfl, ?_, ?_⟩
      · rw [unhide E]
        exact ((unhide H).take 0 (Nat.zero_le _)).later (by exact (Below.refl _ _).alloc (Nat.le_refl _) _)
      · exact (Below.refl _ _).alloc (Nat.le_refl _) _
    · have hlt : k - 1 < l.length := by omega
      obtain ⟨b, o, rfl, hbw, hcell⟩ := unhide HR (fun e => by rw [e] at hlt; simp at hlt)
      have hx := hcell (k - 1) hlt
      obtain ⟨j, rfl⟩ : ∃ j, k = j + 1 := ⟨k - 1, by omega⟩
      simp only [Nat.add_sub_cancel] at hx hlt
      have HT := ht
      clear ht
      by_cases hz : l[j] = 0
      · rw [hz] at hx
        have e : Cub.trimN (l.take j) = Cub.trimN l := by
          rw [← unhide HT, List.take_succ_eq_append_getElem hlt, hz, Cub.trimN_snoc_zero]
        have E := hide e
        clear hcell e hz
        go_wp2
        go_round
        case rel => exact ⟨j, by omega, by go_num, E⟩
        case measure => simp [intOf]
      · have e : Cub.trimN l = l.take (j + 1) := by
          rw [← unhide HT, List.take_succ_eq_append_getElem hlt, Cub.trimN_snoc _ _ hz]
        have E := hide e
        have hz' : ((l[j] : Int) == 0) = false := by rw [beq_eq_false_iff_ne]; omega
        clear hcell e hz
        go_wp2
        refine bodyPost_ret (v := .agg #[.slice (some ⟨b, o, none⟩) (j + 1) cap]) (by simp [results, Tryz.results80, go_sem]) rfl ⟨_, rfl, ?_, ?_⟩
        · rw [unhide E]
          exact ((unhide H).take (j + 1) hk).later (by exact (Below.refl _ _).alloc (Nat.le_refl _) _)
        · exact (Below.refl _ _).alloc (Nat.le_refl _) _
end Go.Proofs.YtimihoonnglniaaGreatDoor

namespace Cub

theorem pow9 (m : Nat) : 10 ^ (9 * m) = 1000000000 ^ m := by rw [Nat.pow_mul]

/-- One limb more: the digits from f on are those of the limb, then those from e on. -/
theorem dval_cut (l : List UInt8) (m e f : Nat) (he : e + 9 * m = l.length) (hf : f ≤ e) :
    dval (l.drop f) = dval (l.drop e) + 1000000000 ^ m * dval ((l.drop f).take (e - f)) := by
  have h1 : l.drop f = (l.drop f).take (e - f) ++ l.drop e := by
    have := List.take_append_drop (e - f) (l.drop f)
    rw [List.drop_drop] at this
    rw [show f + (e - f) = e by omega] at this
    exact this.symm
  rw [← pow9]
  have hl : (l.drop e).length = 9 * m := by rw [List.length_drop]; omega
  rw [h1, dval_append, hl, ← h1, Nat.mul_comm, Nat.add_comm]

theorem digs_sub {l : List UInt8} (h : digs l) (f k : Nat) : digs ((l.drop f).take k) := fun c hc => h c (List.mem_of_mem_drop (List.mem_of_mem_take hc))

theorem seg_lt {l : List UInt8} (h : digs l) (f k : Nat) (hk : k ≤ 9) : dval ((l.drop f).take k) < 1000000000 := by
  have h1 := dval_lt (digs_sub h f k)
  have h2 : ((l.drop f).take k).length ≤ 9 := by rw [List.length_take]; omega
  have h3 : 10 ^ ((l.drop f).take k).length ≤ 10 ^ 9 := Nat.pow_le_pow_right (by decide) h2
  omega

theorem seg_lt' {l : List UInt8} (h : digs l) (f k : Nat) (hk : k ≤ 8) : dval ((l.drop f).take k) < 100000000 := by
  have h1 := dval_lt (digs_sub h f k)
  have h2 : ((l.drop f).take k).length ≤ 8 := by rw [List.length_take]; omega
  have h3 : 10 ^ ((l.drop f).take k).length ≤ 10 ^ 8 := Nat.pow_le_pow_right (by decide) h2
  omega

theorem seg_succ (l : List UInt8) (f i : Nat) (hf : f ≤ i) (hi : i < l.length) :
    dval ((l.drop f).take (i + 1 - f)) = dval ((l.drop f).take (i - f)) * 10 + (l[i].toNat - 48) := by
  rw [show i + 1 - f = (i - f) + 1 by omega, List.take_succ_eq_append_getElem (by rw [List.length_drop]; omega), dval_snoc]
  have : (l.drop f)[i - f]'(by rw [List.length_drop]; omega) = l[i] := by
    rw [List.getElem_drop]; congr 1; omega
  rw [this, Nat.mul_comm]

/-- The outer step. -/
theorem cut_step (l : List UInt8) (L : List Nat) (e f : Nat) (he : e + 9 * L.length = l.length) (hf : f = e - 9) (hd : digs l) (hL : limbs 1000000000 L)
    (hv : lval 1000000000 L = dval (l.drop e)) :
    limbs 1000000000 (L ++ [dval ((l.drop f).take (e - f))]) ∧ lval 1000000000 (L ++ [dval ((l.drop f).take (e - f))]) = dval (l.drop f) := by
  refine ⟨limbs_append.2 ⟨hL, fun x hx => ?_⟩, ?_⟩
  · rw [List.mem_singleton] at hx; subst hx; exact seg_lt hd f _ (by omega)
  · rw [lval_snoc, hv, dval_cut l L.length e f he (by omega)]
end Cub

namespace Go.Proofs.YtimihoonnglniaaGreatDoor
open Go.RowKit

theorem Tryz.info64 : (Tryz.prog.info? 64).map (fun i => (i.zero, i.size, i.bytes)) = some (some (.int .u64 0), 1, 8) := by kernel_rfl

theorem cut_start (l : List UInt8) (n : Nat) (h : l.length = n) : (n : Int) = (n : Int) - 9 * (([] : List Nat).length : Int) ∧ Cub.limbs 1000000000 [] ∧ Cub.lval 1000000000 [] = Cub.dval (l.drop (n - 9 * ([] : List Nat).length)) := by
  subst h
  refine ⟨by simp, fun _ h => (by cases h), ?_⟩
  simp [Cub.lval, Cub.dval]

set_option maxRecDepth 100000 in
set_option maxHeartbeats 800000 in
theorem bigText_any (s : ByteArray) (w : World) (hs : s.size ≤ 1000000000) (hd : Cub.digs s.data.toList) :
    Calls Tryz.prog 60 #[.string s] w fun e w' => ∃ v, e = .returned v ∧ IsBig w' v (Cub.dval s.data.toList) ∧ Below w.heap.size w w' := by
  have HD := hide hd
  clear hd
  obtain ⟨i0, hi, hz0, hz1, hz2⟩ := info_parts Tryz.info64
  go_enter Tryz.func60, Tryz.ntmps60
  go_wp2_with (at_make; refine wpList_make_own _ rfl _ _ 41 rfl (w.heap.size + 1) 64 i0 (.int .u64 0) 1 Tryz.underlying41 hi hz0 hz1 .i64 .i64 _ (s.size / 9 + 1) rfl rfl (by omega) (by rw [hz2]; omega) (by unfold maxLen; omega) (by simp) ?_; intro w0 hown0 hgrow0)
  have hown1 : w0.ownsRow (w.heap.size + 1) 64 1 (.slice (some ⟨w.heap.size + 1, 0, none⟩) 0 (s.size / 9 + 1)) 0 (u64s []) := by simpa [u64s] using hown0
  have hb0 : Below (w.heap.size + 1) (w.alloc (.cells #[.slice none 0 0] 43)) w0 := (Below.refl _ _).grown hgrow0 (by simp) (fun k hk => by cases hk)
  clear hown0 hgrow0
  go_loopw [3, 4] (fun v i wr => ∃ (L : List Nat) (x : Int), i = .int .i64 x ∧ x ≤ 1000000000 ∧ -9 < x ∧ L.length ≤ 200000000 ∧ Hid (x = (s.size : Int) - 9 * (L.length : Int) ∧ Cub.limbs 1000000000 L ∧ Cub.lval 1000000000 L = Cub.dval (s.data.toList.drop (s.size - 9 * L.length))) ∧
      wr.ownsRow (w.heap.size + 1) 64 1 v L.length (u64s L) ∧ Below (w.heap.size + 1) (w.alloc (.cells #[.slice none 0 0] 43)) wr) (fun _ i _ => (intOf i).toNat)
  case atStart => exact ⟨[], (s.size : Int), rfl, by omega, by omega, by simp, cut_start _ _ (list_len s), hown1, hb0⟩
  case round =>
    obtain ⟨L, x, rfl, hx1, hx9, hLl, HX, hown, hb⟩ := hrel
    clear hown1 hb0
    by_cases hx : 0 < x
    · obtain ⟨e, rfl⟩ := Int.eq_ofNat_of_zero_le (Int.le_of_lt hx)
      have he0 : Hid (e + 9 * L.length = s.size) := by have := (unhide HX).1; exact (by omega : e + 9 * L.length = s.size)
      have hes : e ≤ s.size := by have := unhide he0; omega
      have HDs : Hid (∀ k (hk : k < s.size), 48 ≤ s[k].toNat ∧ s[k].toNat ≤ 57) := fun k hk => unhide HD s[k] (by rw [← list_get s k hk]; exact List.getElem_mem _)
      by_cases h9 : 9 ≤ e
      all_goals
        go_wp2
        go_loop [5, 6] (fun y i => ∃ (k n : Nat), e - 9 ≤ k ∧ k ≤ e ∧ i = .int .i64 k ∧ y = .int .u64 n ∧ n < 1000000000 ∧ Hid (n = Cub.dval ((s.data.toList.drop (e - 9)).take (k - (e - 9))))) (fun _ i => e - (intOf i).toNat)
        case atStart => exact ⟨e - 9, 0, Nat.le_refl _, by omega, by go_num, rfl, by omega, by rw [Nat.sub_self]; exact rfl⟩
        case round =>
          obtain ⟨k, n, hk1, hk2, rfl, rfl, hn, HN⟩ := hrel
          by_cases hlt : k < e
          · have hks : k < s.size := by omega
            obtain ⟨d1, d2⟩ := unhide HDs k hks
            have hn' : n < 100000000 := by rw [unhide HN]; exact Cub.seg_lt' (unhide HD) _ _ (by omega)
            have HN' : Hid (n * 10 + (s[k].toNat - 48) = Cub.dval ((s.data.toList.drop (e - 9)).take (k + 1 - (e - 9)))) := by
              rw [Cub.seg_succ _ _ _ hk1 (by rw [list_len]; exact hks), ← unhide HN]; exact rfl
            go_wp2
            go_round
            case rel => exact ⟨k + 1, n * 10 + (s[k].toNat - 48), by omega, by omega, by go_num, by go_num, by omega, HN'⟩
            case measure => simp [intOf]; omega
          · have hke : k = e := by omega
            subst hke
            clear hlt
            go_wp2_with (at_builtin; refine wpList_append_own _ rfl _ _ 41 rfl (w.heap.size + 1) 64 i0 (.int .u64 0) 1 8 Tryz.underlying41 hi hz0 hz1 hz2 rfl (by decide) _ _ _ rfl (hown.alloc _) ⟨wr.heap.size, 0, none⟩ 1 1 [.int .u64 (n : Int)] rfl rfl (cell_one_new _ _ _) (fun x hx => by simp at hx; subst hx; rfl) (by unfold maxLen; omega) (by omega) (by have := hb.size; simp at this ⊢; omega) ?_; intro v' w1 hown' hgrow _)
            have hsz := hb.size
            have hb' : Below (w.heap.size + 1) (w.alloc (.cells #[.slice none 0 0] 43)) w1 := (hb.alloc (by simp at hsz; omega) _).grown hgrow (by simp at hsz ⊢; omega) (fun j hj => (hown.lt j hj).1)
            have hown2 : w1.ownsRow (w.heap.size + 1) 64 1 v' (L ++ [n]).length (u64s (L ++ [n])) := by simpa [u64s] using hown'
            have HS := Cub.cut_step s.data.toList L k (k - 9) (by rw [list_len]; exact unhide he0) rfl (unhide HD) (unhide HX).2.1 (by have := (unhide HX).2.2; rw [this]; congr 2; have := unhide he0; omega)
            rw [← unhide HN] at HS
            have HS' := hide HS
            clear hgrow hown' HS hown hsz
            go_wp2
            go_roundw
            case rel => exact ⟨L ++ [n], (k : Int) - 9, rfl, by omega, by omega, by have := unhide he0; simp; omega, ⟨by have := unhide he0; simp; omega, (unhide HS').1, by rw [(unhide HS').2]; congr 2; have := unhide he0; simp; omega⟩, hown2, hb'⟩
            case measure => simp [intOf]; omega
    · have hfin : Cub.lval 1000000000 (Cub.trimN L) = Cub.dval s.data.toList ∧ Cub.normal 1000000000 (Cub.trimN L) := by
        obtain ⟨h1, h2, h3⟩ := unhide HX
        obtain ⟨t1, t2, _⟩ := Cub.lval_trim 1000000000 _ L rfl
        refine ⟨?_, t2 h2⟩
        rw [t1, h3, show s.size - 9 * L.length = 0 by omega, List.drop_zero]
      have HF := hide hfin
      have hrow := Row.of_own hown
      have HRow := hide hrow
      have HOwn := hide hown
      have hsz : w.heap.size + 1 ≤ wr.heap.size := by have := hb.size; simpa using this
      have hc0 : wr.cell? ⟨w.heap.size, 0, none⟩ = some (.slice none 0 0) := by rw [hb.cell (p := ⟨w.heap.size, 0, none⟩) (by simp)]; simp
      have hf0 : wr.frozen? ⟨w.heap.size, 0, none⟩ = false := by rw [hb.frozen (p := ⟨w.heap.size, 0, none⟩) (by simp)]; simp
      clear hfin hrow hown
      go_wp2_with (go_at_call 80; refine (trim_any _ L _ (unhide HRow)).mono ?_; rintro e w2 ⟨v', rfl, hrow2, hb2⟩; obtain ⟨a2, cap2, rfl, hcap2⟩ := hrow2.form; obtain ⟨hc2, hf2⟩ := box_later hb2 hsz hc0 hf0)
      refine bodyPost_ret (v := .agg #[.slice a2 (Cub.trimN L).length cap2]) (by simp [results, Tryz.results60, go_sem, hc2]) rfl ⟨_, rfl, ?_, ?_⟩
      · exact ⟨_, _, rfl, hrow2.box _ hc2 (fun _ _ h => by cases h), (unhide HF).2, (unhide HF).1⟩
      · exact (((Below.refl _ _).alloc (Nat.le_refl _) _).trans ((hb.trans (hb2.mono hsz)).mono (Nat.le_succ _))).setCell (Nat.le_refl _) _
end Go.Proofs.YtimihoonnglniaaGreatDoor

namespace Cub
open Go.Lib (nDigits decDigits)

def dcount (y : Nat) : Nat := if y = 0 then 0 else nDigits y
theorem dcount_zero : dcount 0 = 0 := rfl
theorem dcount_step (y : Nat) (h : 0 < y) : dcount y = dcount (y / 10) + 1 := by
  unfold dcount
  rw [if_neg (by omega)]
  by_cases h10 : y < 10
  · rw [Go.Lib.nDigits_small h10, if_pos (by omega)]
  · rw [Go.Lib.nDigits_big h10, if_neg (by omega)]
theorem dcount_pos (y : Nat) (h : 0 < y) : dcount y = nDigits y := by unfold dcount; rw [if_neg (by omega)]

theorem nDigits_ge (x : Nat) (h : 0 < x) : 10 ^ (nDigits x - 1) ≤ x := by
  have h1 := isNat_dec x
  by_cases h2 : 2 ≤ (decDigits x).length
  · have := isNat_pos h1 h2
    rw [dval_dec, Go.Lib.decDigits_length] at this; exact this
  · rw [Go.Lib.decDigits_length] at h2
    have : nDigits x - 1 = 0 := by omega
    rw [this]; omega

theorem nDigits_top (t : List Nat) (x : Nat) (ht : limbs 1000000000 t) (hx : 0 < x) : nDigits (lval 1000000000 (t ++ [x])) = 9 * t.length + nDigits x := by
  have h1 := nDigits_ge x hx
  have h2 := Go.Lib.lt_pow_nDigits x
  have h3 := lval_lt ht
  have h4 := Go.Lib.nDigits_pos x
  rw [show 9 * t.length + nDigits x = (9 * t.length + (nDigits x - 1)) + 1 by omega]
  rw [lval_snoc]
  have p1 : 10 ^ (9 * t.length + (nDigits x - 1)) = 1000000000 ^ t.length * 10 ^ (nDigits x - 1) := by rw [Nat.pow_add, pow9]
  have p2 : 10 ^ (9 * t.length + (nDigits x - 1) + 1) = 1000000000 ^ t.length * 10 ^ (nDigits x) := by
    rw [show 9 * t.length + (nDigits x - 1) + 1 = 9 * t.length + nDigits x by omega, Nat.pow_add, pow9]
  apply Go.Lib.nDigits_unique
  · rw [p1]
    have := Nat.mul_le_mul_left (1000000000 ^ t.length) h1
    omega
  · rw [p2]
    have : 1000000000 ^ t.length * (x + 1) ≤ 1000000000 ^ t.length * 10 ^ (nDigits x) := Nat.mul_le_mul_left _ h2
    rw [Nat.mul_add] at this
    omega

theorem nDigits_le9 (x : Nat) (h : x < 1000000000) : nDigits x ≤ 9 := by
  have := (dec_len_lt x 9 (by decide)).2 (by simpa using h)
  rwa [Go.Lib.decDigits_length] at this

theorem len_le {l : List Nat} {k : Nat} (h : normal 1000000000 l) (hk : lval 1000000000 l < 1000000000 ^ k) : l.length ≤ k := by
  by_cases hne : l = []
  · subst hne; simp
  · have h1 := normal_ge h hne
    have h2 := (Nat.pow_lt_pow_iff_right (by decide : 1 < 1000000000)).1 (Nat.lt_of_le_of_lt h1 hk)
    omega

theorem split_last {l : List Nat} (h : l ≠ []) : ∃ t x, l = t ++ [x] := by
  rcases List.eq_nil_or_concat l with h0 | ⟨t, c, rfl⟩
  · exact absurd h0 h
  · exact ⟨t, c, by rw [List.concat_eq_append]⟩

theorem normal_last {t : List Nat} {x : Nat} (h : normal 1000000000 (t ++ [x])) : limbs 1000000000 t ∧ 0 < x ∧ x < 1000000000 := by
  refine ⟨(limbs_append.1 h.1).1, ?_, (limbs_append.1 h.1).2 x (by simp)⟩
  have : x ≠ 0 := by intro e; apply h.2; simp [e]
  omega
end Cub

namespace Go.Proofs.YtimihoonnglniaaGreatDoor
open Go.RowKit

theorem IsBig.form {w : World} {v : Value} {n : Nat} (h : IsBig w v n) : ∃ a l cap, v = .agg #[.slice a l.length cap] ∧ l.length ≤ 9223372036854775807 ∧ Row w (.slice a l.length cap) l ∧ Cub.normal 1000000000 l ∧ Cub.lval 1000000000 l = n := by
  obtain ⟨s, l, rfl, hr, hn, hv⟩ := h
  obtain ⟨a, cap, rfl, hc, hm⟩ := hr.form
  exact ⟨a, l, cap, rfl, by omega, hr, hn, hv⟩

theorem big_zero {l : List Nat} (hn : Cub.normal 1000000000 l) : (Cub.lval 1000000000 l == 0) = ((l.length : Int) == 0) := by
  rw [Bool.eq_iff_iff, beq_iff_eq, beq_iff_eq, Cub.normal_zero hn (by decide), ← List.length_eq_zero_iff]; omega

theorem isZero_any (v : Value) (n : Nat) (w : World) (h : IsBig w v n) :
    Calls Tryz.prog 44 #[v] w fun e w' => e = .returned (.bool (n == 0)) ∧ Below w.heap.size w w' := by
  obtain ⟨a, l, cap, rfl, hl, hr, hn, rfl⟩ := h.form
  rw [big_zero hn]
  clear h hr hn
  go_enter Tryz.func44, Tryz.ntmps44
  go_wp2
  go_ret
  exact ⟨rfl, (Below.refl _ _).alloc (Nat.le_refl _) _⟩

set_option maxRecDepth 100000 in
set_option maxHeartbeats 400000 in
theorem len_any (v : Value) (n k : Nat) (w : World) (h : IsBig w v n) (hk : k ≤ 1000000) (hn : n < 1000000000 ^ k) :
    Calls Tryz.prog 45 #[v] w fun e w' => e = .returned (.int .i64 (Lib.nDigits n : Nat)) ∧ Below w.heap.size w w' := by
  have H := hide h
  obtain ⟨a, l, cap, rfl, hl, hr, hnm, rfl⟩ := h.form
  have hlk := Cub.len_le hnm hn
  clear hn hl h
  by_cases h0 : l = []
  · subst h0
    have e1 : Lib.nDigits (Cub.lval 1000000000 []) = 1 := Lib.nDigits_small (by decide)
    rw [e1]
    clear e1
    go_enter Tryz.func45, Tryz.ntmps45
    go_wp2_with (go_at_call 44; refine (isZero_any _ _ _ ((unhide H).later ((Below.refl _ _).alloc (Nat.le_refl _) _))).mono ?_; rintro e w2 ⟨rfl, hb2⟩)
    go_ret
    exact ⟨rfl, ((Below.refl _ _).alloc (Nat.le_refl _) _).trans (hb2.mono (by simp))⟩
  · obtain ⟨t, x, rfl⟩ := Cub.split_last h0
    obtain ⟨ht, hx0, hxB⟩ := Cub.normal_last hnm
    have hz : (Cub.lval 1000000000 (t ++ [x]) == 0) = false := by
      rw [beq_eq_false_iff_ne]; intro e; exact h0 ((Cub.normal_zero hnm (by decide)).1 e)
    have HD := hide (Cub.nDigits_top t x ht hx0)
    have HL := hide (Cub.nDigits_le9 x hxB)
    obtain ⟨a', cap', ev, hc, hm, hcells⟩ := hr
    simp only [Value.slice.injEq] at ev
    obtain ⟨rfl, _, rfl⟩ := ev
    obtain ⟨b, o, rfl, hbw, hcell⟩ := hcells h0
    have hx := hcell t.length (by simp)
    simp only [List.getElem_concat_length] at hx
    have htk : t.length + 1 ≤ k := by simpa using hlk
    have hlen : (t ++ [x]).length = t.length + 1 := by simp
    have HZ := hide hz
    rw [hlen] at H ⊢
    clear hcell hcells hnm ht hlk hz h0 hlen
    have HX : Hid (∀ W, Below w.heap.size w W → W.cell? ⟨b, o + t.length, none⟩ = some (.int .u64 (x : Int))) := fun W hW => (hW.cell (p := ⟨b, o + t.length, none⟩) hbw).trans hx
    clear hx
    go_enter Tryz.func45, Tryz.ntmps45
    go_wp2_with (go_at_call 44; refine (isZero_any _ _ _ ((unhide H).later ((Below.refl _ _).alloc (Nat.le_refl _) _))).mono ?_; rintro e w2 ⟨rfl, hb2⟩; rw [unhide HZ]; obtain ⟨hcb, _⟩ := box_later hb2 (g := w.heap.size) (x := .slice (some ⟨b, o, none⟩) (t.length + 1) cap) (by simp) (by simp) (by simp); have hb3 := ((Below.refl w.heap.size w).alloc (Nat.le_refl _) (.cells #[.slice (some ⟨b, o, none⟩) (t.length + 1) cap] 43)).trans (hb2.mono (by simp)); have hx2 := unhide HX w2 hb3; clear hb2)
    go_loop [4, 5] (fun m y => ∃ (c z : Nat), m = .int .i64 ((t.length : Int) * 9 + (c : Int)) ∧ y = .int .u64 (z : Int) ∧ z < 1000000000 ∧ c ≤ 9 ∧ Hid (c + Cub.dcount z = Lib.nDigits x)) (fun _ y => (intOf y).toNat)
    case atStart => exact ⟨0, x, by simp, rfl, hxB, by omega, by rw [Cub.dcount_pos x hx0]; exact Nat.zero_add _⟩
    case round =>
      obtain ⟨c, z, rfl, rfl, hz, hc9, HC⟩ := hrel
      by_cases hz0 : 0 < z
      · have hC : Hid (c + 1 + Cub.dcount (z / 10) = Lib.nDigits x) := by rw [← unhide HC, Cub.dcount_step z hz0]; exact (by omega : c + 1 + Cub.dcount (z / 10) = c + (Cub.dcount (z / 10) + 1))
        have hc8 : c + 1 ≤ 9 := by have := unhide hC; have := unhide HL; omega
        go_wp2
        go_round
        case rel => exact ⟨c + 1, z / 10, by go_num, by go_num, by omega, hc8, hC⟩
        case measure => simp [intOf]; omega
      · have : z = 0 := by omega
        subst this
        have hfin : (t.length : Int) * 9 + (c : Int) = ((9 * t.length + Lib.nDigits x : Nat) : Int) := by have := unhide HC; rw [Cub.dcount_zero] at this; omega
        have HF := hide hfin
        clear hfin
        go_wp2
        go_ret
        exact ⟨by rw [unhide HD, ← unhide HF]; rfl, hb3⟩
end Go.Proofs.YtimihoonnglniaaGreatDoor

namespace Cub
open Go.Lib (nDigits decDigits)

/-- The last k digits of d, each one told. -/
def padn : Nat → Nat → List UInt8
  | 0, _ => []
  | k + 1, d => padn k (d / 10) ++ [UInt8.ofNat (48 + d % 10)]

theorem padn_length (k : Nat) : ∀ d, (padn k d).length = k := by
  induction k with
  | zero => intro d; rfl
  | succ k ih => intro d; simp [padn, ih]

theorem dec_pad (k : Nat) : ∀ (q r : Nat), 0 < q → r < 10 ^ k → decDigits (10 ^ k * q + r) = decDigits q ++ padn k r := by
  induction k with
  | zero => intro q r hq hr; have : r = 0 := by simpa using hr
            subst this; simp [padn]
  | succ k ih =>
    intro q r hq hr
    have hp : 0 < 10 ^ k := Nat.pow_pos (by decide)
    have h1 : 10 ≤ 10 ^ (k + 1) * q + r := by
      rw [Nat.pow_succ]
      have : 10 ^ k * 10 * 1 ≤ 10 ^ k * 10 * q := Nat.mul_le_mul_left _ hq
      omega
    have e : 10 ^ (k + 1) * q + r = 10 * (10 ^ k * q) + r := by rw [Nat.pow_succ, Nat.mul_comm (10 ^ k) 10, Nat.mul_assoc]
    rw [decDigits, dif_neg (by omega)]
    have d1 : (10 ^ (k + 1) * q + r) / 10 = 10 ^ k * q + r / 10 := by rw [e]; omega
    have d2 : (10 ^ (k + 1) * q + r) % 10 = r % 10 := by rw [e]; omega
    rw [d1, d2, ih q (r / 10) hq (by rw [Nat.pow_succ] at hr; omega)]
    simp [padn]

theorem pad_step (d j : Nat) (hj : j + 1 ≤ 9) : padn (9 - (j + 1)) (d / 10 ^ (j + 1)) ++ [UInt8.ofNat (48 + d / 10 ^ j % 10)] = padn (9 - j) (d / 10 ^ j) := by
  rw [show 9 - j = (9 - (j + 1)) + 1 by omega]
  simp only [padn]
  rw [Nat.div_div_eq_div_mul, ← Nat.pow_succ]

theorem pad_all (d : Nat) : padn (9 - 0) (d / 10 ^ 0) = padn 9 d := by simp

/-- One limb more of the text. -/
theorem dec_limb (l : List Nat) (i : Nat) (hi : i < l.length) (hl : limbs 1000000000 l) (hq : 0 < lval 1000000000 (l.drop (i + 1))) :
    decDigits (lval 1000000000 (l.drop i)) = decDigits (lval 1000000000 (l.drop (i + 1))) ++ padn 9 l[i] := by
  have hx := hl l[i] (List.getElem_mem hi)
  rw [List.drop_eq_getElem_cons hi]
  simp only [lval]
  rw [Nat.add_comm]
  exact dec_pad 9 _ _ hq hx

theorem drop_pos {l : List Nat} (h : normal 1000000000 l) (i : Nat) (hi : i < l.length) : 0 < lval 1000000000 (l.drop i) := by
  have hne : l.drop i ≠ [] := by intro e; have := congrArg List.length e; simp at this; omega
  have hn : normal 1000000000 (l.drop i) := by
    refine ⟨fun x hx => h.1 x (List.mem_of_mem_drop hx), ?_⟩
    rw [List.getLast?_drop, if_neg (by omega)]; exact h.2
  have h1 := normal_ge hn hne
  have : 0 < 1000000000 ^ ((l.drop i).length - 1) := Nat.pow_pos (by decide)
  omega

/-- The unit that goes with j digits to be told. -/
def unitOf (j : Nat) : Nat := if j = 0 then 0 else 10 ^ (j - 1)
theorem unit_div (j : Nat) : unitOf (j + 1) / 10 = unitOf j := by
  unfold unitOf
  rw [if_neg (by omega)]
  cases j with
  | zero => rfl
  | succ k => rw [if_neg (by omega)]; simp [Nat.pow_succ]
theorem unit_pos (j : Nat) : 0 < unitOf j ↔ 0 < j := by
  unfold unitOf
  by_cases h : j = 0
  · simp [h]
  · rw [if_neg h]; exact ⟨fun _ => by omega, fun _ => Nat.pow_pos (by decide)⟩
theorem unit_at (j : Nat) : unitOf (j + 1) = 10 ^ j := by unfold unitOf; rw [if_neg (by omega)]; rfl
end Cub

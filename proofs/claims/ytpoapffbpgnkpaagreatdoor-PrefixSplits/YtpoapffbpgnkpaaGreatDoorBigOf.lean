/- nat.BigOf: of any number. -/
import Derived.Deep.Quiet
import Derived.Test.YtpoapffbpgnkpaaGreatDoorGcdSmall
import Derived.Deep.Cut
import Derived.Test.YtpoapffbpgnkpaaGreatDoorLimb5
import Derived.SizedLaws
import Derived.Deep.Slices
import Derived.Carry
import Derived.Test.YtpoapffbpgnkpaaGreatDoorShelf
namespace Go.Proofs.YtpoapffbpgnkpaaGreatDoor
open Go.RowKit
section
variable {P : Program} {ops : Array Oper} {md : Region.Mode} {C : World → Prop}

def waitsB (md : Region.Mode) (o : Oper) (i : Nat) : Bool := o.after.any fun e => Region.binds md e && e.on == i
theorem waits_spec {o : Oper} {i : Nat} (h : waitsB md o i = true) : ∃ e ∈ o.after, Region.binds md e = true ∧ e.on = i := by
  unfold waitsB at h
  rw [Array.any_eq_true] at h
  obtain ⟨j, hj, h2⟩ := h
  rw [Bool.and_eq_true, beq_iff_eq] at h2
  exact ⟨_, Array.getElem_mem hj, h2⟩

/-- Whatever order is picked from here on: number k comes last. -/
def wpAnyL (P : Program) (md : Region.Mode) (ops : Array Oper) (C : World → Prop) (Q : Act → Prop) (k : Nat) : Nat → Array Bool → Act → Prop
  | 0, listed, a => Region.ready md ops listed = [k] ∧ Region.ready md ops (listed.setIfInBounds k true) = [] ∧ Q a
  | fuel + 1, listed, a => Region.ready md ops listed ≠ [] ∧
    ∀ i ∈ Region.ready md ops listed, qOp P ops C i (wpAnyL P md ops C Q k fuel (listed.setIfInBounds i true)) a

theorem wpAny_of_last {k : Nat} {Q : Act → Prop} {Q' : Exit → Act → World → Prop} (hQ : ∀ a w, C w → Q a → wpOp P ops Q' k (fun a w => Q' .normal a w) a w) : ∀ (fuel : Nat) (listed : Array Bool) (a : Act) (w : World), C w →
    wpAnyL P md ops C Q k fuel listed a → wpAny P md ops Q' (fuel + 1) listed a w
  | 0, _, _, _, hw, h => ⟨fun h0 => (by rw [h.1] at h0; cases h0), fun i hi => by
      rw [h.1, List.mem_singleton] at hi
      subst hi
      exact wpOp_mono (fun a w hq => ⟨h.2.1, hq⟩) (hQ _ _ hw h.2.2)⟩
  | fuel + 1, _, _, _, hw, h => ⟨fun h0 => absurd h0 h.1, fun i hi => wpOp_of_qOp hw (fun a' w' hw' => wpAny_of_last hQ fuel _ a' w' hw') (h.2 i hi)⟩

theorem wpAnyL_first {Q : Act → Prop} {i k : Nat} {oi ok : Oper} {v : Value} (hi : ops[i]? = some oi) (hk : ops[k]? = some ok) (hwait : ∃ e ∈ ok.after, Region.binds md e = true ∧ e.on = i)
    (hsel : ∀ (j : Nat) (o : Oper) cs b, ops[j]? = some o → o.op ≠ .select cs b) :
    ∀ (fuel : Nat) (listed : Array Bool) (a : Act),
      (∀ j oj, ops[j]? = some oj → j ≠ i → listed.getD j true = false → (∀ e ∈ oj.after, Region.binds md e = true → e.on ≠ i) → oi.apart ops oj = true) →
      i ∈ Region.ready md ops listed → YieldsIn P ops C oi v a →
      wpAnyL P md ops C Q k fuel (listed.setIfInBounds i true) (a.put oi.dst v) → wpAnyL P md ops C Q k (fuel + 1) listed a := by
  have late : ∀ (listed : Array Bool), i ∈ Region.ready md ops listed → k ∉ Region.ready md ops listed := fun listed hr hkr => by
    obtain ⟨e, he, hb, hon⟩ := hwait
    obtain ⟨_, o, ho, hall⟩ := mem_ready.1 hkr
    rw [hk] at ho; cases ho
    have h1 := hall e he hb
    have h0 := (mem_ready.1 hr).1
    rw [hon] at h1
    rcases Nat.lt_or_ge i listed.size with h' | h'
    · simp [h'] at h0 h1; rw [h0] at h1; cases h1
    · simp [Array.getElem?_eq_none h'] at h1
  intro fuel
  induction fuel with
  | zero =>
    intro listed a _ hr hy H
    refine ⟨fun h => (by rw [h] at hr; cases hr), fun j hj => ?_⟩
    by_cases hji : j = i
    · subst hji; exact hy.qOp hi H
    · have := ready_mono hj hji
      rw [H.1, List.mem_singleton] at this
      subst this
      exact absurd hj (late listed hr)
  | succ fuel ih =>
    intro listed a hfree hr hy H
    refine ⟨fun h => (by rw [h] at hr; cases hr), fun j hj => ?_⟩
    by_cases hji : j = i
    · subst hji; exact hy.qOp hi H
    · have h1 := H.2 j (ready_mono hj hji)
      obtain ⟨hjun, oj, hoj, hall⟩ := mem_ready.1 hj
      have hnot : ∀ e ∈ oj.after, Region.binds md e = true → e.on ≠ i := fun e he hb heq => by
        have h1 := hall e he hb
        have h0 := (mem_ready.1 hr).1
        rw [heq] at h1
        rcases Nat.lt_or_ge i listed.size with h' | h'
        · simp [h'] at h0 h1; rw [h0] at h1; cases h1
        · simp [Array.getElem?_eq_none h'] at h1
      have h2 := qOp_put hoj (hfree j oj hoj hji hjun hnot) (fun cs b => hsel i oi cs b hi) (fun cs b => hsel j oj cs b hoj) hy h1
      have hfree' : ∀ k ok, ops[k]? = some ok → k ≠ i → (listed.setIfInBounds j true).getD k true = false →
          (∀ e ∈ ok.after, Region.binds md e = true → e.on ≠ i) → oi.apart ops ok = true := fun k ok hk hki hun hno => by
        refine hfree k ok hk hki ?_ hno
        by_cases hjk : j = k
        · subst hjk; exact hjun
        · rw [getD_set_ne true hjk] at hun; exact hun
      refine qOp_mono (fun a' h3 => ih (listed.setIfInBounds j true) a' hfree' (ready_mono hr (Ne.symm hji)) h3.1 ?_) h2
      rw [Array.setIfInBounds_comm _ _ hji]
      exact h3.2

def lexLast (md : Region.Mode) (ops : Array Oper) (o : Oper) : Nat → Nat → Array Bool → Bool
  | 0, k, listed => (Region.ready md ops listed == [k]) && (Region.ready md ops (listed.setIfInBounds k true)).isEmpty
  | fuel + 1, k, listed => (Region.ready md ops listed).contains k && Region.free md ops listed k && waitsB md o k && lexLast md ops o fuel (k + 1) (listed.setIfInBounds k true)

theorem wpAnyL_lex {Q : Act → Prop} {ok : Oper} (hs : Region.noSelect ops = true) : ∀ (l : List Oper) (k : Nat) (listed : Array Bool) (a : Act), (∀ j, j < l.length → l[j]? = ops[k + j]?) → ops[k + l.length]? = some ok →
    lexLast md ops ok l.length k listed = true → wpQuiet P ops C Q l a → wpAnyL P md ops C Q (k + l.length) l.length listed a
  | [], k, _, _, _, _, hB, h => by
    simp only [List.length_nil, lexLast, Bool.and_eq_true, beq_iff_eq, List.isEmpty_iff] at hB
    exact ⟨hB.1, hB.2, h⟩
  | o :: l, k, listed, a, hl, hk, hB, h => by
    have h0 : ops[k]? = some o := by simpa using (hl 0 (by simp)).symm
    simp only [List.length_cons, lexLast, Bool.and_eq_true] at hB
    obtain ⟨⟨⟨hr, hf⟩, hwt⟩, hB'⟩ := hB
    have hst : qOp P ops C k (wpQuiet P ops C Q l) a := by unfold qOp; simp only [h0]; exact h
    obtain ⟨v, hy, hK⟩ := yieldsIn_of_qOp h0 hst
    have e : k + (o :: l).length = (k + 1) + l.length := by simp only [List.length_cons]; omega
    rw [e] at hk ⊢
    exact wpAnyL_first h0 hk (waits_spec hwt) (Region.noSelect_spec hs) l.length listed a (Region.free_spec h0 hf) (by simpa using hr) hy
      (wpAnyL_lex hs l (k + 1) _ _ (fun j hj => by have := hl (j + 1) (by simp only [List.length_cons]; omega); simpa [Nat.add_assoc, Nat.add_comm 1 j] using this) hk hB' hK)

def lastB (l : List Oper) (st : Oper) : Bool := Region.noSelect (l ++ [st]).toArray && lexLast .any (l ++ [st]).toArray st l.length 0 (Array.replicate (l ++ [st]).toArray.size false)

theorem quiet_last {id : Nat} {Q : Exit → Act → World → Prop} {a : Act} {w : World} {L l : List Oper} {st : Oper} (hL : L = l ++ [st]) (hm : P.follows .mixedOrders = true) (hB : lastB l st = true)
    (h : wpQuiet P L.toArray (fun w' => ∃ x : Later w, w' = x.world) (fun a' => ∀ w', (∃ x : Later w, w' = x.world) → if Region.wanted st (yielded L.toArray a'.tmps) then st.wp P a' w' (fun a w => Q .normal a w) Q else Q .normal (a'.put st.dst undef) w') l a) : (Code.region id L.toArray true).wp P Q a w := by
  subst hL
  simp only [lastB, Bool.and_eq_true] at hB
  have hlast : (l ++ [st]).toArray[0 + l.length]? = some st := by simp
  refine wp_region_any hm ?_
  have hsz : (l ++ [st]).toArray.size = l.length + 1 := by simp
  rw [hsz] at hB ⊢
  refine wpAny_of_last (k := 0 + l.length) (C := fun w' => ∃ x : Later w, w' = x.world) (Q := fun a' => ∀ w', (∃ x : Later w, w' = x.world) → if Region.wanted st (yielded (l ++ [st]).toArray a'.tmps) then st.wp P a' w' (fun a w => Q .normal a w) Q else Q .normal (a'.put st.dst undef) w') ?_ _ _ _ _ ⟨⟨_, (Below.refl w.heap.size w).drew⟩, rfl⟩ ?_
  · intro a' w' hw' hq
    have := hq w' hw'
    unfold wpOp
    rw [hlast]
    dsimp only
    split
    · rename_i hwt; simp only [hwt, if_true] at this; exact .inl this
    · rename_i hwt; simp only [hwt] at this; exact this
  · exact wpAnyL_lex hB.1 l 0 _ a (fun j hj => by simp [List.getElem?_append_left hj]) hlast hB.2 h
/-- The last one of a list. -/
def lastOf (d : Oper) : List Oper → Oper
  | [] => d
  | o :: l => lastOf o l
theorem front_last (d : Oper) : ∀ L : List Oper, L ≠ [] → L = L.dropLast ++ [lastOf d L]
  | [], h => absurd rfl h
  | [o], _ => rfl
  | o :: o' :: l, _ => by
    have h := front_last o (o' :: l) (by simp)
    rw [List.dropLast_cons_cons, List.cons_append]
    exact congrArg (o :: ·) h
/-- The same, of a region that is written out. -/
theorem quiet_end {id : Nat} {Q : Exit → Act → World → Prop} {a : Act} {w : World} {o : Oper} {L : List Oper} (hm : P.follows .mixedOrders = true) (hB : lastB (o :: L).dropLast (lastOf o L) = true)
    (h : wpQuiet P (o :: L).toArray (fun w' => ∃ x : Later w, w' = x.world) (fun a' => ∀ w', (∃ x : Later w, w' = x.world) → if Region.wanted (lastOf o L) (yielded (o :: L).toArray a'.tmps) then (lastOf o L).wp P a' w' (fun a w => Q .normal a w) Q else Q .normal (a'.put (lastOf o L).dst undef) w') (o :: L).dropLast a) : (Code.region id (o :: L).toArray true).wp P Q a w :=
  quiet_last (l := (o :: L).dropLast) (st := lastOf o L) (front_last o (o :: L) (by simp)) hm hB h
end
end Go.Proofs.YtpoapffbpgnkpaaGreatDoor

namespace Go.Proofs.YtpoapffbpgnkpaaGreatDoor
open Go.RowKit
/-- A unit's fields. -/
structure UV where
  nm : ByteArray
  sy : ByteArray
  d0 : Int
  d1 : Int
  d2 : Int
  d3 : Int
  d4 : Int
  d5 : Int
  d6 : Int
  d7 : Int
  fn : ByteArray
  fd : ByteArray
  on : ByteArray
  od : ByteArray
  tk : Int
def UV.v (u : UV) : Value := .agg #[.string u.nm, .string u.sy, .int .i64 u.d0, .int .i64 u.d1, .int .i64 u.d2, .int .i64 u.d3, .int .i64 u.d4, .int .i64 u.d5, .int .i64 u.d6, .int .i64 u.d7, .string u.fn, .string u.fd, .string u.on, .string u.od, .int .i64 u.tk]
def UV.cells (u : UV) : List Value := [.string u.nm, .string u.sy, .int .i64 u.d0, .int .i64 u.d1, .int .i64 u.d2, .int .i64 u.d3, .int .i64 u.d4, .int .i64 u.d5, .int .i64 u.d6, .int .i64 u.d7, .string u.fn, .string u.fd, .string u.on, .string u.od, .int .i64 u.tk]
/-- Its fifteen cells. -/
structure UAt (W : World) (b o : Nat) (u : UV) : Prop where
  c0 : W.cell? ⟨b, o, none⟩ = some (.string u.nm)
  c1 : W.cell? ⟨b, o + 1, none⟩ = some (.string u.sy)
  c2 : W.cell? ⟨b, o + 2, none⟩ = some (.int .i64 u.d0)
  c3 : W.cell? ⟨b, o + 3, none⟩ = some (.int .i64 u.d1)
  c4 : W.cell? ⟨b, o + 4, none⟩ = some (.int .i64 u.d2)
  c5 : W.cell? ⟨b, o + 5, none⟩ = some (.int .i64 u.d3)
  c6 : W.cell? ⟨b, o + 6, none⟩ = some (.int .i64 u.d4)
  c7 : W.cell? ⟨b, o + 7, none⟩ = some (.int .i64 u.d5)
  c8 : W.cell? ⟨b, o + 8, none⟩ = some (.int .i64 u.d6)
  c9 : W.cell? ⟨b, o + 9, none⟩ = some (.int .i64 u.d7)
  c10 : W.cell? ⟨b, o + 10, none⟩ = some (.string u.fn)
  c11 : W.cell? ⟨b, o + 11, none⟩ = some (.string u.fd)
  c12 : W.cell? ⟨b, o + 12, none⟩ = some (.string u.on)
  c13 : W.cell? ⟨b, o + 13, none⟩ = some (.string u.od)
  c14 : W.cell? ⟨b, o + 14, none⟩ = some (.int .i64 u.tk)
theorem UAt.later {W V : World} {b o : Nat} {u : UV} (h : UAt W b o u) (hb : Below W.heap.size W V) : UAt V b o u := by
  have hl : b < W.heap.size := World.block_lt_of_cell? _ _ h.c0
  exact ⟨(hb.cell (p := ⟨b, o, none⟩) hl).trans h.c0, (hb.cell (p := ⟨b, o + 1, none⟩) hl).trans h.c1, (hb.cell (p := ⟨b, o + 2, none⟩) hl).trans h.c2, (hb.cell (p := ⟨b, o + 3, none⟩) hl).trans h.c3, (hb.cell (p := ⟨b, o + 4, none⟩) hl).trans h.c4, (hb.cell (p := ⟨b, o + 5, none⟩) hl).trans h.c5, (hb.cell (p := ⟨b, o + 6, none⟩) hl).trans h.c6, (hb.cell (p := ⟨b, o + 7, none⟩) hl).trans h.c7, (hb.cell (p := ⟨b, o + 8, none⟩) hl).trans h.c8, (hb.cell (p := ⟨b, o + 9, none⟩) hl).trans h.c9, (hb.cell (p := ⟨b, o + 10, none⟩) hl).trans h.c10, (hb.cell (p := ⟨b, o + 11, none⟩) hl).trans h.c11, (hb.cell (p := ⟨b, o + 12, none⟩) hl).trans h.c12, (hb.cell (p := ⟨b, o + 13, none⟩) hl).trans h.c13, (hb.cell (p := ⟨b, o + 14, none⟩) hl).trans h.c14⟩
/-- A slice of units. -/
def InU (W : World) (a : Option Addr) (n : Nat) (us : Nat → UV) : Prop := 0 < n → ∃ b o, a = some ⟨b, o, none⟩ ∧ b < W.heap.size ∧ ∀ i, i < n → UAt W b (o + i * 15) (us i)
theorem InU.later {W V : World} {a : Option Addr} {n : Nat} {us : Nat → UV} (h : InU W a n us) (hb : Below W.heap.size W V) : InU V a n us := fun hn => by
  obtain ⟨b, o, e, hl, hc⟩ := h hn
  exact ⟨b, o, e, Nat.lt_of_lt_of_le hl hb.size, fun i hi => (hc i hi).later hb⟩
def plainB (s nm sy : ByteArray) : Bool := nm.toList == s.toList || sy.toList == s.toList
set_option maxRecDepth 100000 in
set_option maxHeartbeats 2000000 in
theorem plain_any (nm sy : ByteArray) (d0 d1 d2 d3 d4 d5 d6 d7 : Int) (fn fd on od : ByteArray) (tk : Int) (s : ByteArray) (b : Nat) (w : World) (hb : w.cell? ⟨b, 0, none⟩ = some (.string s)) (hlt : b < w.heap.size) :
    Calls Tryz.prog 14 #[.agg #[.string nm, .string sy, .int .i64 d0, .int .i64 d1, .int .i64 d2, .int .i64 d3, .int .i64 d4, .int .i64 d5, .int .i64 d6, .int .i64 d7, .string fn, .string fd, .string on, .string od, .int .i64 tk], .pointer (some ⟨b, 0, none⟩)] w fun r w' => r = .returned (.bool (plainB s nm sy)) ∧ Below w.heap.size w w' := by
  unfold plainB
  go_enter Tryz.func14, Tryz.ntmps14
  go_wp2_with fail
  all_goals
    go_ret
    refine ⟨?_, (Below.refl _ _).alloc (Nat.le_refl _) _⟩
    first | rfl | (simp [*]; done) | (simp_all; done)
def takesB (tk : Int) (bi : Bool) : Bool := tk == 3 || (if bi then tk == 2 else tk == 1)
set_option maxRecDepth 100000 in
set_option maxHeartbeats 2000000 in
theorem takes_any (nm sy : ByteArray) (d0 d1 d2 d3 d4 d5 d6 d7 : Int) (fn fd on od : ByteArray) (tk : Int) (bi : Bool) (w : World) :
    Calls Tryz.prog 92 #[.agg #[.string nm, .string sy, .int .i64 d0, .int .i64 d1, .int .i64 d2, .int .i64 d3, .int .i64 d4, .int .i64 d5, .int .i64 d6, .int .i64 d7, .string fn, .string fd, .string on, .string od, .int .i64 tk], .bool bi] w fun r w' => r = .returned (.bool (takesB tk bi)) ∧ Below w.heap.size w w' := by
  unfold takesB
  cases bi
  all_goals
    go_enter Tryz.func92, Tryz.ntmps92
    go_wp2_with fail
    all_goals
      go_ret
      refine ⟨?_, (Below.refl _ _).alloc (Nat.le_refl _) _⟩
      first | rfl | (simp [*]; done) | (simp_all; done) | (simp_all [Bool.or_comm]; done)
def calledB (cn cs nm sy : ByteArray) : Bool := (!cn.toList.isEmpty && cn.toList == nm.toList) || (!cs.toList.isEmpty && cs.toList == sy.toList)
def readsB (cn cs nm sy : ByteArray) (bi : Bool) (tk : Int) : Bool := calledB cn cs nm sy && takesB tk bi
set_option maxRecDepth 100000 in
set_option maxHeartbeats 2000000 in
theorem reads_any (p : Int) (bi : Bool) (cn cs : ByteArray) (nm sy : ByteArray) (d0 d1 d2 d3 d4 d5 d6 d7 : Int) (fn fd on od : ByteArray) (tk : Int) (w : World) :
    Calls Tryz.prog 36 #[.agg #[.int .i64 p, .bool bi, .string cn, .string cs], .agg #[.string nm, .string sy, .int .i64 d0, .int .i64 d1, .int .i64 d2, .int .i64 d3, .int .i64 d4, .int .i64 d5, .int .i64 d6, .int .i64 d7, .string fn, .string fd, .string on, .string od, .int .i64 tk]] w fun r w' => r = .returned (.bool (readsB cn cs nm sy bi tk)) ∧ Below w.heap.size w w' := by
  have HT := hide (fun W => takes_any nm sy d0 d1 d2 d3 d4 d5 d6 d7 fn fd on od tk bi W)
  unfold readsB calledB
  generalize takesB tk bi = T at *
  cases h1 : cn.toList.isEmpty
  all_goals cases h2 : (cn.toList == nm.toList)
  all_goals cases h3 : cs.toList.isEmpty
  all_goals cases h4 : (cs.toList == sy.toList)
  all_goals
   go_enter Tryz.func36, Tryz.ntmps36
   go_wp2_with (go_at_call 92; go_must (refine (unhide HT _).mono ?_; rintro e wt ⟨rfl, hbt⟩; have HB := hide hbt; clear hbt))
   all_goals
    go_ret
    refine ⟨?_, ?_⟩
    · first | rfl | (simp [*]; done) | (simp_all; done)
    · first | exact ((Below.refl _ _).alloc (Nat.le_refl _) _).alloc (by simp) _ | exact (((Below.refl _ _).alloc (Nat.le_refl _) _).alloc (by simp) _).trans ((unhide HB).mono (by simp; omega))
end Go.Proofs.YtpoapffbpgnkpaaGreatDoor

namespace Go.Proofs.YtpoapffbpgnkpaaGreatDoor
open Go.ChangeShapes Go.WideShapes Go.ChangeAt Go.RowKit
theorem cellsOfU : Tryz.prog.cellsOf 28 = 15 := by kernel_rfl
theorem bytesOfU : Tryz.prog.bytesOf 28 = 168 := by kernel_rfl
theorem structU : ∃ f0 f1 f2 f3 f4 f5, Tryz.prog.underlying 28 = some (.struct #[f0, f1, f2, f3, f4, f5]) ∧ f0.type = 9 ∧ f0.offset = 0 ∧ f1.type = 9 ∧ f1.offset = 1 ∧ f2.type = 24 ∧ f2.offset = 2 ∧ f3.type = 26 ∧ f3.offset = 10 ∧ f4.type = 26 ∧ f4.offset = 12 ∧ f5.type = 3 ∧ f5.offset = 14 :=
  ⟨_, _, _, _, _, _, Tryz.underlying28, rfl, rfl, rfl, rfl, rfl, rfl, rfl, rfl, rfl, rfl, rfl, rfl⟩
theorem structQ : ∃ f0 f1, Tryz.prog.underlying 26 = some (.struct #[f0, f1]) ∧ f0.type = 9 ∧ f0.offset = 0 ∧ f1.type = 9 ∧ f1.offset = 1 := ⟨_, _, Tryz.underlying26, rfl, rfl, rfl, rfl⟩
theorem cellsOf3 : Tryz.prog.cellsOf 3 = 1 := by kernel_rfl
theorem cellsOf9' : Tryz.prog.cellsOf 9 = 1 := by kernel_rfl
theorem cellsOf24 : Tryz.prog.cellsOf 24 = 8 := by kernel_rfl
theorem cellsOf26 : Tryz.prog.cellsOf 26 = 2 := by kernel_rfl
theorem take_one {cs : List Value} {j : Nat} {v : Value} (h : (cs.drop j).take 1 = [v]) : cs[j]? = some v := by
  have h4 : (List.take 1 (List.drop j cs))[0]? = some v := by rw [h]; rfl
  rw [List.getElem?_take, List.getElem?_drop] at h4
  simpa using h4
section
variable {H : Type} {enc : TypeId × Value → H} {w : World} {base fuel : Nat} {spare : Nat → Bool} {held : Bool} {cs : List Value} {x : DataW H × List MemPlace}
theorem open_q (h : DataW.trod enc Tryz.prog w base spare held fuel 26 cs = some x) : ∃ a b : ByteArray, cs[0]? = some (.string a) ∧ cs[1]? = some (.string b) := by
  obtain ⟨f0, f1, hu, t0, o0, t1, o1⟩ := structQ
  obtain ⟨xs, n, _, _, hl, hlen, hf⟩ := DataW.trod_struct hu h
  have hxl : xs.length = 2 := hlen
  have g0 := hf 0 f0 rfl
  have g1 := hf 1 f1 rfl
  rw [t0, o0, cellsOf9', List.getElem?_eq_getElem (by omega)] at g0
  rw [t1, o1, cellsOf9', List.getElem?_eq_getElem (by omega)] at g1
  obtain ⟨a, ha, _, _⟩ := DataW.trod_string Tryz.underlying9 g0
  obtain ⟨b, hb, _, _⟩ := DataW.trod_string Tryz.underlying9 g1
  exact ⟨a, b, take_one ha, take_one hb⟩
theorem open_d (h : DataW.trod enc Tryz.prog w base spare held fuel 24 cs = some x) : ∀ j, j < 8 → ∃ z : Int, cs[j]? = some (.int .i64 z) := by
  obtain ⟨xs, mm, _, _, _, hxl, hxx⟩ := DataW.trod_array Tryz.underlying24 h
  intro j hj
  have h3 := hxx j hj
  rw [cellsOf3, Nat.mul_one, List.getElem?_eq_getElem (by omega)] at h3
  obtain ⟨z, hz, _, _⟩ := DataW.trod_int Tryz.underlying3 h3
  exact ⟨z, take_one hz⟩
theorem get_drop {cs : List Value} {o n j : Nat} {v : Value} (h : ((cs.drop o).take n)[j]? = some v) : cs[o + j]? = some v := by
  rw [List.getElem?_take] at h
  split at h
  · rw [List.getElem?_drop] at h; exact h
  · cases h
theorem open_u (h : DataW.trod enc Tryz.prog w base spare held fuel 28 cs = some x) : ∃ u : UV, cs = u.cells ∧ u.nm.size ∈ x.1.weights Tryz.prog 28 ∧ u.sy.size ∈ x.1.weights Tryz.prog 28 := by
  obtain ⟨f0, f1, f2, f3, f4, f5, hu, t0, o0, t1, o1, t2, o2, t3, o3, t4, o4, t5, o5⟩ := structU
  obtain ⟨xs, n, _, rfl, hl, hlen, hf⟩ := DataW.trod_struct hu h
  have hxl : xs.length = 6 := hlen
  rw [cellsOfU] at hl
  have g0 := hf 0 f0 rfl
  have g1 := hf 1 f1 rfl
  have g2 := hf 2 f2 rfl
  have g3 := hf 3 f3 rfl
  have g4 := hf 4 f4 rfl
  have g5 := hf 5 f5 rfl
  rw [t0, o0, cellsOf9', List.getElem?_eq_getElem (by omega)] at g0
  rw [t1, o1, cellsOf9', List.getElem?_eq_getElem (by omega)] at g1
  rw [t2, o2, cellsOf24, List.getElem?_eq_getElem (by omega)] at g2
  rw [t3, o3, cellsOf26, List.getElem?_eq_getElem (by omega)] at g3
  rw [t4, o4, cellsOf26, List.getElem?_eq_getElem (by omega)] at g4
  rw [t5, o5, cellsOf3, List.getElem?_eq_getElem (by omega)] at g5
  obtain ⟨nm, hnm, x0, _⟩ := DataW.trod_string Tryz.underlying9 g0
  obtain ⟨sy, hsy, x1, _⟩ := DataW.trod_string Tryz.underlying9 g1
  obtain ⟨tk, htk, _, _⟩ := DataW.trod_int Tryz.underlying3 g5
  obtain ⟨fn, fd, hfn, hfd⟩ := open_q g3
  obtain ⟨on, od, hon, hod⟩ := open_q g4
  obtain ⟨d0, h0⟩ := open_d g2 0 (by omega)
  obtain ⟨d1, h1⟩ := open_d g2 1 (by omega)
  obtain ⟨d2, h2⟩ := open_d g2 2 (by omega)
  obtain ⟨d3, h3⟩ := open_d g2 3 (by omega)
  obtain ⟨d4, h4⟩ := open_d g2 4 (by omega)
  obtain ⟨d5, h5⟩ := open_d g2 5 (by omega)
  obtain ⟨d6, h6⟩ := open_d g2 6 (by omega)
  obtain ⟨d7, h7⟩ := open_d g2 7 (by omega)
  refine ⟨⟨nm, sy, d0, d1, d2, d3, d4, d5, d6, d7, fn, fd, on, od, tk⟩, ?_, ?_, ?_⟩
  · refine List.ext_getElem? fun j => ?_
    match j with
    | 0 => exact take_one hnm
    | 1 => exact take_one hsy
    | 2 => exact get_drop h0
    | 3 => exact get_drop h1
    | 4 => exact get_drop h2
    | 5 => exact get_drop h3
    | 6 => exact get_drop h4
    | 7 => exact get_drop h5
    | 8 => exact get_drop h6
    | 9 => exact get_drop h7
    | 10 => exact get_drop hfn
    | 11 => exact get_drop hfd
    | 12 => exact get_drop hon
    | 13 => exact get_drop hod
    | 14 => exact take_one htk
    | j + 15 => rw [List.getElem?_eq_none (by omega)]; rfl
  · have hw : (DataW.agg (xs.map (·.1)) : DataW H).weights Tryz.prog 28 = DataW.weightsEach Tryz.prog [f0.type, f1.type, f2.type, f3.type, f4.type, f5.type] (xs.map (·.1)) := by unfold DataW.weights; rw [hu]; rfl
    dsimp only
    rw [hw]
    have hd : (xs.map (·.1))[0]? = some (.lit (.string nm.data.toList)) := by rw [List.getElem?_map, List.getElem?_eq_getElem (by omega), x0]; rfl
    have hm := DataW.weights_mem_each (P := Tryz.prog) (ts := [f0.type, f1.type, f2.type, f3.type, f4.type, f5.type]) (j := 0) (t := f0.type) rfl hd nm.data.toList.length (by unfold DataW.weights; exact List.mem_singleton.2 rfl)
    have hq : nm.data.toList.length = nm.size := by simp
    rw [hq] at hm
    exact hm
  · have hw : (DataW.agg (xs.map (·.1)) : DataW H).weights Tryz.prog 28 = DataW.weightsEach Tryz.prog [f0.type, f1.type, f2.type, f3.type, f4.type, f5.type] (xs.map (·.1)) := by unfold DataW.weights; rw [hu]; rfl
    dsimp only
    rw [hw]
    have hd : (xs.map (·.1))[1]? = some (.lit (.string sy.data.toList)) := by rw [List.getElem?_map, List.getElem?_eq_getElem (by omega), x1]; rfl
    have hm := DataW.weights_mem_each (P := Tryz.prog) (ts := [f0.type, f1.type, f2.type, f3.type, f4.type, f5.type]) (j := 1) (t := f1.type) rfl hd sy.data.toList.length (by unfold DataW.weights; exact List.mem_singleton.2 rfl)
    have hq : sy.data.toList.length = sy.size := by simp
    rw [hq] at hm
    exact hm
theorem mem_all {e : TypeId} {d : DataW H} {k : Nat} : ∀ {l : List (DataW H)}, d ∈ l → k ∈ d.weights Tryz.prog e → k ∈ DataW.weightsAll Tryz.prog e l
  | a :: l, hd, hk => by
    unfold DataW.weightsAll
    rcases List.mem_cons.1 hd with rfl | hd
    · exact List.mem_append_left _ hk
    · exact List.mem_append_right _ (mem_all hd hk)
/-- A slice of units that comes in. -/
theorem open_units (h : DataW.trod enc Tryz.prog w base spare held fuel 22 cs = some x) :
    (cs = [.slice none 0 0]) ∨ ∃ (a : Addr) (len cap : Nat) (es sp : List (DataW H)) (us : Nat → UV), cs = [.slice (some a) len cap] ∧ len ≤ cap ∧ cap ≤ maxLen ∧ x.1 = .slice es sp ∧ es.length = len ∧ InU w (some a) len us ∧
      ∀ i, i < len → (us i).nm.size ∈ x.1.weights Tryz.prog 22 ∧ (us i).sy.size ∈ x.1.weights Tryz.prog 22 := by
  rcases Go.Deep.open_slice Tryz.underlying22 h with ⟨h0, _⟩ | ⟨a, len, cap, m, n, D, Pl, rfl, _, hl, hm, hmm, rfl, hx⟩
  · exact Or.inl h0
  · rw [cellsOfU] at hx
    have hlm : len ≤ m := by rw [hmm]; split <;> omega
    have hex : ∀ i, i < len → ∃ u : UV, (∀ j, j < 15 → w.cell? ((a.add (i * 15)).add j) = u.cells[j]?) ∧ u.nm.size ∈ (D i).weights Tryz.prog 28 ∧ u.sy.size ∈ (D i).weights Tryz.prog 28 := by
      intro i hi
      obtain ⟨cs', h1, h2⟩ := hx i (by omega)
      obtain ⟨_, hlen, hc⟩ := World.cells?_some h1
      obtain ⟨u, rfl, h3, h4⟩ := open_u h2
      exact ⟨u, hc, h3, h4⟩
    have hnon : ∃ u : UV, True := ⟨⟨⟨#[]⟩, ⟨#[]⟩, 0, 0, 0, 0, 0, 0, 0, 0, ⟨#[]⟩, ⟨#[]⟩, ⟨#[]⟩, ⟨#[]⟩, 0⟩, trivial⟩
    refine Or.inr ⟨a, len, cap, _, _, fun i => if hi : i < len then Classical.choose (hex i hi) else Classical.choose hnon, rfl, hl, hm, rfl, by simp, fun hpos => ?_, fun i hi => ?_⟩
    · have h0 := (Classical.choose_spec (hex 0 hpos)).1 0 (by omega)
      have h0' : w.cell? ((a.add (0 * 15)).add 0) = some (.string (Classical.choose (hex 0 hpos)).nm) := h0
      obtain ⟨b, o, spot⟩ := a
      have hspot : spot = none := by simpa [Addr.add] using World.cell?_spot h0'
      subst hspot
      refine ⟨b, o, rfl, World.block_lt_of_cell? _ _ h0', fun i hi => ?_⟩
      have h1 := (Classical.choose_spec (hex i hi)).1
      simp only [hi, dif_pos]
      generalize Classical.choose (hex i hi) = u at h1
      have e : ∀ j v, j < 15 → u.cells[j]? = some v → w.cell? ⟨b, o + i * 15 + j, none⟩ = some v := fun j v hj hv => by
        rw [← hv, ← h1 j hj, Go.WideShapes.add_plain, Go.WideShapes.add_plain]
      exact ⟨e 0 _ (by omega) rfl, e 1 _ (by omega) rfl, e 2 _ (by omega) rfl, e 3 _ (by omega) rfl, e 4 _ (by omega) rfl, e 5 _ (by omega) rfl, e 6 _ (by omega) rfl, e 7 _ (by omega) rfl, e 8 _ (by omega) rfl, e 9 _ (by omega) rfl, e 10 _ (by omega) rfl, e 11 _ (by omega) rfl, e 12 _ (by omega) rfl, e 13 _ (by omega) rfl, e 14 _ (by omega) rfl⟩
    · have h1 := (Classical.choose_spec (hex i hi)).2
      simp only [hi, dif_pos]
      generalize Classical.choose (hex i hi) = u at h1
      have hm : D i ∈ (List.range len).map D := List.mem_map.2 ⟨i, by simpa using hi, rfl⟩
      have hw : ∀ k, k ∈ (D i).weights Tryz.prog 28 → k ∈ (DataW.slice ((List.range len).map D) ((List.range (m - len)).map fun j => D (len + j)) : DataW H).weights Tryz.prog 22 := fun k hk => by
        unfold DataW.weights
        rw [Tryz.underlying22]
        exact List.mem_cons_of_mem _ (List.mem_append_left _ (mem_all hm hk))
      exact ⟨hw _ h1.1, hw _ h1.2⟩
end
end Go.Proofs.YtpoapffbpgnkpaaGreatDoor

namespace Go.Proofs.YtpoapffbpgnkpaaGreatDoor
open Go.ChangeShapes Go.WideShapes Go.ChangeAt Go.RowKit
set_option maxRecDepth 100000 in
theorem open_uarg2 {H : Type} {enc : TypeId × Value → H} {W : World} {base : Nat} {v : Value} {d : DataW H} {p : List MemPlace} {ts : List TypeId} {ds : List (DataW H)} {j : Nat} (hval : Value.okWide Tryz.prog W .any base 22 v)
    (h : DataW.Trod enc Tryz.prog W 0 (fun _ => true) true 22 v d p) (hz : (DataW.weightsEach Tryz.prog ts ds).all (· ≤ reachBytes) = true) (ht : ts[j]? = some 22) (hd : ds[j]? = some d) :
    ∃ a n cap us, v = .slice a n cap ∧ InU W a n us ∧ n ≤ maxLen ∧ n * 168 ≤ 140737488351232 ∧ (∀ i, i < n → (us i).nm.size ≤ 140737488355328 ∧ (us i).sy.size ≤ 140737488355328) ∧ (a = none → n = 0 ∧ cap = 0) := by
  obtain ⟨a0, len, cap, rfl⟩ := okWide_slice Tryz.underlying22 hval
  obtain ⟨fuel, hf⟩ := h
  rcases open_units hf with h0 | ⟨a, len', cap', es, sp, us, hcs, hl, hm, hx, hlen, hU, hw⟩
  · simp [Value.cells] at h0
    obtain ⟨rfl, rfl, rfl⟩ := h0
    exact ⟨none, 0, 0, fun _ => ⟨⟨#[]⟩, ⟨#[]⟩, 0, 0, 0, 0, 0, 0, 0, 0, ⟨#[]⟩, ⟨#[]⟩, ⟨#[]⟩, ⟨#[]⟩, 0⟩, rfl, fun hn => by omega, by unfold maxLen; omega, by omega, fun i hi => by omega, fun _ => ⟨rfl, rfl⟩⟩
  · simp [Value.cells] at hcs
    obtain ⟨rfl, rfl, rfl⟩ := hcs
    have hx' : d = .slice es sp := hx
    have hwt : ∀ k, k ∈ d.weights Tryz.prog 22 → k ≤ 140737488351232 := fun k hk => by
      have := List.all_eq_true.1 hz k (DataW.weights_mem_each ht hd k hk)
      exact of_decide_eq_true (show decide (k ≤ 140737488351232) = true from this)
    refine ⟨some a, len, cap, us, rfl, hU, by omega, ?_, fun i hi => ⟨?_, ?_⟩, fun e => by cases e⟩
    · have := sized_slice hz ht (by rw [hd, hx']) Tryz.underlying22
      rw [bytesOfU] at this
      simp only [reachBytes] at this
      omega
    · have := hwt _ (hw i hi).1; omega
    · have := hwt _ (hw i hi).2; omega
end Go.Proofs.YtpoapffbpgnkpaaGreatDoor

namespace Go.Proofs.YtpoapffbpgnkpaaGreatDoor
open Go.RowKit

/-- How far BigOf has come: what is told already, and what is left. -/
def OfInv (u : Nat) (L : List Nat) (q : Nat) : Prop := Cub.limbs 1000000000 L ∧ Cub.lval 1000000000 L + 1000000000 ^ L.length * q = u ∧ (q = 0 → Cub.normal 1000000000 L)
theorem OfInv.start (u : Nat) : OfInv u [] u := ⟨fun _ h => (by cases h), by simp [Cub.lval], fun _ => Cub.normal_nil _⟩
theorem OfInv.step {u : Nat} {L : List Nat} {q : Nat} (h : OfInv u L q) (hq : 0 < q) : OfInv u (L ++ [q % 1000000000]) (q / 1000000000) := by
  obtain ⟨h1, h2, h3⟩ := h
  have hl : Cub.limbs 1000000000 (L ++ [q % 1000000000]) := Cub.limbs_append.2 ⟨h1, fun x hx => by simp at hx; subst hx; exact Nat.mod_lt _ (by decide)⟩
  refine ⟨hl, ?_, fun h0 => ⟨hl, ?_⟩⟩
  · rw [Cub.lval_snoc, List.length_append, List.length_singleton, Nat.pow_succ, Nat.mul_assoc, Nat.add_assoc, ← Nat.mul_add]
    rw [Nat.mod_add_div]; exact h2
  · rw [List.getLast?_append]
    simp
    omega
theorem OfInv.short {u : Nat} {L : List Nat} {q : Nat} (h : OfInv u L q) (hq : 0 < q) (hu : u < 18446744073709551616) : L.length ≤ 2 := by
  have h2 := h.2.1
  have h3 : 1000000000 ^ L.length ≤ 1000000000 ^ L.length * q := Nat.le_mul_of_pos_right _ hq
  apply Decidable.byContradiction
  intro hc
  have h4 : 1000000000 ^ 3 ≤ 1000000000 ^ L.length := Nat.pow_le_pow_right (by decide) (by omega)
  omega

set_option maxRecDepth 100000 in
set_option maxHeartbeats 800000 in
theorem bigOf_any (u : Nat) (w : World) (hu : u < 18446744073709551616) :
    Calls Tryz.prog 133 #[.int .u64 (u : Int)] w fun e w' => ∃ a n c, e = .returned (.agg #[.slice a n c]) ∧ IsBig w' (.agg #[.slice a n c]) u ∧ Below w.heap.size w w' := by
  obtain ⟨i0, hi, hz0, hz1, hz2⟩ := info_parts Tryz.info130
  go_enter Tryz.func133, Tryz.ntmps133
  go_wp2
  go_loopw [0, 3] (fun t v wr => ∃ (q : Nat) (L : List Nat), t = .int .u64 (q : Int) ∧ q < 18446744073709551616 ∧ L.length ≤ 3 ∧ Hid (OfInv u L q) ∧ wr.ownsRow (w.heap.size + 1) 130 1 v L.length (u64s L) ∧ Below (w.heap.size + 1) (w.alloc (.cells #[.slice none 0 0] 81)) wr) (fun t _ _ => (intOf t).toNat)
  case atStart => exact ⟨u, [], rfl, hu, by simp, OfInv.start u, ⟨rfl, Or.inl ⟨rfl, rfl⟩⟩, Below.refl _ _⟩
  case round =>
    obtain ⟨q, L, rfl, hq, hL, HI, hown, hb⟩ := hrel
    by_cases h0 : 0 < q
    · have hL2 := (unhide HI).short h0 hu
      have HI' := hide ((unhide HI).step h0)
      have hr : q % 1000000000 < 1000000000 := Nat.mod_lt _ (by decide)
      go_wp2_with (at_builtin; refine wpList_append_own _ rfl _ _ 79 rfl (w.heap.size + 1) 130 i0 (.int .u64 0) 1 8 Tryz.underlying79 hi hz0 hz1 hz2 rfl (by decide) _ _ _ rfl (hown.alloc _) ⟨wr.heap.size, 0, none⟩ 1 1 [.int .u64 ((q % 1000000000 : Nat) : Int)] rfl rfl (cell_one_new _ _ _) (fun x hx => by simp at hx; subst hx; rfl) (by unfold maxLen; omega) (by omega) (by have := hb.size; simp at this ⊢; omega) ?_; intro v' w1 hown' hgrow _)

      have hsz := hb.size
      have hb' : Below (w.heap.size + 1) (w.alloc (.cells #[.slice none 0 0] 81)) w1 := (hb.alloc (by simp at hsz; omega) _).grown hgrow (by simp at hsz ⊢; omega) (fun j hj => (hown.lt j hj).1)
      have hown2 : w1.ownsRow (w.heap.size + 1) 130 1 v' (L ++ [q % 1000000000]).length (u64s (L ++ [q % 1000000000])) := by simpa [u64s] using hown'
      clear hgrow hown' hown hsz
      go_wp2
      go_roundw
      case rel => exact ⟨q / 1000000000, L ++ [q % 1000000000], by go_num, by omega, by simp; omega, HI', hown2, hb'⟩
      case measure => simp [intOf]; omega
    · have hq0 : q = 0 := by omega
      subst hq0
      have hrow := Row.of_own hown
      have HF : Hid (Cub.lval 1000000000 L = u ∧ Cub.normal 1000000000 L) := ⟨by have := (unhide HI).2.1; simpa using this, (unhide HI).2.2 rfl⟩
      have hsz : w.heap.size + 1 ≤ wr.heap.size := by have := hb.size; simpa using this
      have hc0 : wr.cell? ⟨w.heap.size, 0, none⟩ = some (.slice none 0 0) := by rw [hb.cell (p := ⟨w.heap.size, 0, none⟩) (by simp)]; simp
      have hf0 : wr.frozen? ⟨w.heap.size, 0, none⟩ = false := by rw [hb.frozen (p := ⟨w.heap.size, 0, none⟩) (by simp)]; simp
      obtain ⟨a2, cap2, rfl, hcap2⟩ := hrow.form
      have HRow := hide hrow
      clear hrow hown
      go_wp2
      refine bodyPost_ret (v := .agg #[.slice a2 L.length cap2]) (by simp [results, Tryz.results133, go_sem, hc0]) rfl ⟨_, _, _, rfl, ?_, ?_⟩
      · exact ⟨_, _, rfl, (unhide HRow).box _ hc0 (fun _ _ h => by cases h), (unhide HF).2, (unhide HF).1⟩
      · exact (((Below.refl _ _).alloc (Nat.le_refl _) _).trans (hb.mono (Nat.le_succ _))).setCell (Nat.le_refl _) _
end Go.Proofs.YtpoapffbpgnkpaaGreatDoor

/- Plain facts: products limb by limb. -/
import Derived.Test.YtijifpbpjinmhaaGreatDoorCards
import Derived.Test.YtijifpbpjinmhaaGreatDoorTie
import Derived.Test.YtijifpbpjinmhaaGreatDoorText
import Derived.WalkKit
import Derived.ProofKit
import Derived.OpenShut
import Derived.ChangeSame
import Derived.Deep.DeepHandedRow
import Derived.Lib.LaidTab
import Derived.LaidSub
import Derived.LaidLaws
import Derived.Carry
import Derived.Laws.Cover2
import Derived.Deep.RegionWith
import Derived.Lib.ItoaMem
set_option maxHeartbeats 1000000
set_option maxRecDepth 100000
namespace Go.Proofs.YtijifpbpjinmhaaGreatDoor
open Go.ChangeShapes Go.WideShapes Go.ChangeAt Go.RowKit
theorem own : ownKnob Tryz.prog.godebug = none := by kernel_rfl
theorem laidOut : laidOutB Tryz.prog = true := by kernel_rfl
theorem gPow : Tryz.prog.globalNamed "internal/strconv.uint64pow10" = some 1 := by kernel_rfl
theorem gPowType : (Tryz.prog.globals[1]?).map (·.type) = some 221 := by kernel_rfl
theorem cells221 : Tryz.prog.cellsOf 221 = 20 := by kernel_rfl
theorem cells41 : Tryz.prog.cellsOf 41 = 1 := by kernel_rfl
theorem tab_of {W : World} {l : List (String × DataW Unit)} (h : laidMet Tryz.prog l W) (e : l.filter (fun x => x.1 == "internal/strconv.uint64pow10") = [("internal/strconv.uint64pow10", Rows.laid_internal_strconv_uint64pow10)]) : Tab W := by
  have h1 := laidMet.filter (fun x => x.1 == "internal/strconv.uint64pow10") h
  rw [e] at h1
  exact Lib.tabIs_of_head (rest := []) gPow gPowType Tryz.underlying221 Tryz.underlying41 cells41 cells221 h1
/-- A table's cells, off its datum. -/
def cellsOf1 : DataW Unit → List Value
  | .lit (.int k n) => [Value.int k n]
  | .agg l => l.map fun | .lit (.int k n) => Value.int k n | _ => .nilIface
  | _ => []
def cellsOfData : DataW Unit → Array Value
  | .agg l => (l.flatMap cellsOf1).toArray
  | _ => #[]
def putObj (h : Array Obj) (g : Nat) (c : Array Value) : Array Obj := h.modify g fun
  | .cells _ t frozen => .cells c t frozen
  | o => o
def synS : ByteArray := ⟨#[105, 110, 118, 97, 108, 105, 100, 32, 115, 121, 110, 116, 97, 120]⟩
def rngS : ByteArray := ⟨#[118, 97, 108, 117, 101, 32, 111, 117, 116, 32, 111, 102, 32, 114, 97, 110, 103, 101]⟩
noncomputable def low : Nat := (World.holding Tryz.prog default ⟨#[], #[], []⟩).heap.size
/-- A world for the witness: the settled one, the variables holding what their initialisers lay. -/
noncomputable def laidWorld (os : Os) : World :=
  let w0 := World.holding Tryz.prog os ⟨#[.cells #[.string synS] 248, .cells #[.string rngS] 248], #[], []⟩
  { w0 with heap := putObj (putObj (putObj (putObj (putObj w0.heap 3 #[.iface 246 (.pointer (some ⟨low, 0, none⟩))]) 4 #[.iface 246 (.pointer (some ⟨low + 1, 0, none⟩))]) 1 (cellsOfData Rows.laid_internal_strconv_uint64pow10)) 7 (cellsOfData Rows.laid_math_bits_deBruijn32tab)) 8 (cellsOfData Rows.laid_math_bits_deBruijn64tab) }
theorem cells23 : Tryz.prog.cellsOf 23 = 2 := by kernel_rfl
theorem cells9 : Tryz.prog.cellsOf 9 = 1 := by kernel_rfl
theorem open_rat {H : Type} {enc : TypeId × Value → H} {w : World} {r : Reach} {b0 base : Nat} {spare : Nat → Bool} {held : Bool} {v : Value} {d : DataW H} {p : List MemPlace}
    (hv : Value.okWide Tryz.prog w r b0 23 v) (h : DataW.Trod enc Tryz.prog w base spare held 23 v d p) :
    ∃ s t : ByteArray, v = .agg #[.string s, .string t] ∧ s.size ≤ maxLen ∧ t.size ≤ maxLen := by
  obtain ⟨cs, rfl, hsz⟩ : ∃ cs, v = .agg cs ∧ cs.size = 2 := by
    simp only [Value.okWide, Tryz.underlying23] at hv
    obtain ⟨cs, h1, h2, _⟩ := hv
    exact ⟨cs, h1, h2.trans cells23⟩
  obtain ⟨fuel, hf⟩ := h
  obtain ⟨_, _, _, _, _, g0, g1⟩ := trod_struct2 Tryz.underlying23 hf
  obtain ⟨s, e0, _, hs⟩ := DataW.trod_string Tryz.underlying9 g0
  obtain ⟨t, e1, _, ht⟩ := DataW.trod_string Tryz.underlying9 g1
  refine ⟨s, t, ?_, hs, ht⟩
  obtain ⟨l⟩ := cs
  match l, hsz with
  | [x, y], _ =>
    have k0 : [x] = [.string s] := by rw [← e0]; show [x] = List.take (Tryz.prog.cellsOf 9) (List.drop 0 [x, y]); rw [cells9]; rfl
    have k1 : [y] = [.string t] := by rw [← e1]; show [y] = List.take (Tryz.prog.cellsOf 9) (List.drop 1 [x, y]); rw [cells9]; rfl
    simp only [List.cons.injEq, and_true] at k0 k1
    rw [k0, k1]
end Go.Proofs.YtijifpbpjinmhaaGreatDoor
namespace Cub
theorem lval_set (B : Nat) : ∀ (l : List Nat) (i : Nat) (x : Nat) (h : i < l.length), lval B (l.set i x) + B ^ i * l[i] = lval B l + B ^ i * x := by
  intro l
  induction l with
  | nil => intro i x h; simp at h
  | cons a l ih =>
    intro i x h
    cases i with
    | zero => simp [lval]; omega
    | succ i =>
      have hi : i < l.length := by simpa using h
      have e := ih i x hi
      simp only [List.set_cons_succ, lval, List.getElem_cons_succ, Nat.pow_succ]
      have e2 := congrArg (B * ·) e
      simp only [Nat.mul_add] at e2
      have m1 : B ^ i * B * l[i] = B * (B ^ i * l[i]) := by rw [Nat.mul_comm (B ^ i) B, Nat.mul_assoc]
      have m2 : B ^ i * B * x = B * (B ^ i * x) := by rw [Nat.mul_comm (B ^ i) B, Nat.mul_assoc]
      omega
theorem limbs_set {B : Nat} {l : List Nat} (h : limbs B l) (i x : Nat) (hx : x < B) : limbs B (l.set i x) := by
  intro y hy
  rcases List.mem_or_eq_of_mem_set hy with h1 | h1
  · exact h y h1
  · omega
theorem take_val (l : List Nat) (i : Nat) (h : i < l.length) : lval 1000000000 (l.take (i + 1)) = lval 1000000000 (l.take i) + 1000000000 ^ i * l[i] := by
  rw [List.take_succ_eq_append_getElem h, lval_snoc, List.length_take, Nat.min_eq_left (by omega)]
theorem take_val' (l : List Nat) (i : Nat) (h : l.length ≤ i) : lval 1000000000 (l.take (i + 1)) = lval 1000000000 (l.take i) := by
  rw [List.take_of_length_le (by omega), List.take_of_length_le h]
end Cub
namespace Go.Proofs.YtijifpbpjinmhaaGreatDoor
open Go.RowKit
theorem Tryz.size41 : (Tryz.prog.info? 41).map (·.size) = some 1 := by kernel_rfl
/-- What is read of a row in every later world. -/
def Cells (w : World) (a : Option Addr) (l : List Nat) : Prop :=
  ∀ W, Below w.heap.size w W → ∀ i (hi : i < l.length), ∃ b o, a = some ⟨b, o, none⟩ ∧ W.cell? ⟨b, o + i, none⟩ = some (.int .u64 (l[i] : Int))
theorem Row.cells {w : World} {a : Option Addr} {n cap : Nat} {l : List Nat} (h : Row w (.slice a n cap) l) : n = l.length ∧ n ≤ cap ∧ cap ≤ 9223372036854775807 ∧ Cells w a l := by
  obtain ⟨a', cap', e, hc, hm, hr⟩ := h
  simp only [Value.slice.injEq] at e
  obtain ⟨rfl, rfl, rfl⟩ := e
  refine ⟨rfl, hc, hm, fun W hW i hi => ?_⟩
  obtain ⟨b, o, rfl, hlt, hcell⟩ := hr (fun e => by rw [e] at hi; simp at hi)
  exact ⟨b, o, rfl, (hW.cell (p := ⟨b, o + i, none⟩) hlt).trans (hcell i hi)⟩
/-- The source of a copy. -/
theorem Cells.src {w W : World} {a : Option Addr} {l : List Nat} (h : Cells w a l) (hW : Below w.heap.size w W) (h0 : 0 < l.length) :
    ∃ ad, a = some ad ∧ ∀ j v, (u64s l)[j]? = some v → W.cell? (ad.add j) = some v := by
  obtain ⟨b, o, rfl, _⟩ := h W hW 0 h0
  refine ⟨⟨b, o, none⟩, rfl, fun j v hj => ?_⟩
  have hjl : j < l.length := by
    have := (List.getElem?_eq_some_iff.1 hj).1
    rwa [u64s_length] at this
  rw [u64s_get l j hjl, Option.some.injEq] at hj
  obtain ⟨b', o', e, hc⟩ := h W hW j hjl
  simp only [Option.some.injEq, Addr.mk.injEq] at e
  obtain ⟨rfl, rfl, _⟩ := e
  rw [Lib.add_plain, hc, hj]
theorem u64s_one (l : List Nat) : ∀ v ∈ u64s l, v.oneCell' = true := by
  intro v hv
  simp only [u64s, List.mem_map] at hv
  obtain ⟨x, _, rfl⟩ := hv
  rfl
/-- Three boxes, kept. -/
structure Boxes3 (w w4 : World) (a b c : Value) : Prop where
  c1 : w4.cell? ⟨w.heap.size, 0, none⟩ = some a
  c2 : w4.cell? ⟨w.heap.size + 1, 0, none⟩ = some b
  c3 : w4.cell? ⟨w.heap.size + 1 + 1, 0, none⟩ = some c
  f3 : w4.frozen? ⟨w.heap.size + 1 + 1, 0, none⟩ = false
  below : Below w.heap.size w w4
  size : w.heap.size + 3 ≤ w4.heap.size
theorem boxes3 {w w4 : World} {a b c : Value} (hb : Below (w.heap.size + 3) (((w.alloc (.cells #[a] 51)).alloc (.cells #[b] 51)).alloc (.cells #[c] 51)) w4) : Boxes3 w w4 a b c := by
  refine ⟨?_, ?_, ?_, ?_, ?_, ?_⟩
  · rw [hb.cell (p := ⟨w.heap.size, 0, none⟩) (show w.heap.size < w.heap.size + 3 by omega)]; simp [go_sem]
  · rw [hb.cell (p := ⟨w.heap.size + 1, 0, none⟩) (show w.heap.size + 1 < w.heap.size + 3 by omega)]; simp [go_sem]
  · rw [hb.cell (p := ⟨w.heap.size + 1 + 1, 0, none⟩) (show w.heap.size + 1 + 1 < w.heap.size + 3 by omega)]; simp [go_sem]
  · rw [hb.frozen (p := ⟨w.heap.size + 1 + 1, 0, none⟩) (show w.heap.size + 1 + 1 < w.heap.size + 3 by omega)]; simp [go_sem]
  · exact ((((Below.refl _ _).alloc (Nat.le_refl _) _).alloc (by simp) _).alloc (by simp; omega) _).trans (hb.mono (by omega))
  · have := hb.size; simp at this; omega
theorem Boxes3.on {w w4 w5 : World} {a b c : Value} (h : Boxes3 w w4 a b c) (hb : Below (w.heap.size + 3) w4 w5) : Boxes3 w w5 a b c :=
  ⟨(hb.cell (p := ⟨w.heap.size, 0, none⟩) (show w.heap.size < w.heap.size + 3 by omega)).trans h.c1, (hb.cell (p := ⟨w.heap.size + 1, 0, none⟩) (show w.heap.size + 1 < w.heap.size + 3 by omega)).trans h.c2,
    (hb.cell (p := ⟨w.heap.size + 1 + 1, 0, none⟩) (show w.heap.size + 1 + 1 < w.heap.size + 3 by omega)).trans h.c3, (hb.frozen (p := ⟨w.heap.size + 1 + 1, 0, none⟩) (show w.heap.size + 1 + 1 < w.heap.size + 3 by omega)).trans h.f3,
    h.below.trans (hb.mono (by omega)), by have := hb.size; have := h.size; omega⟩
end Go.Proofs.YtijifpbpjinmhaaGreatDoor
namespace Cub
/-- Taking away in the making: F is what is left so far, m what is missing at place i. -/
structure TakeInv (T : Nat) (F0 L F : List Nat) (m i : Nat) : Prop where
  len : F.length = F0.length
  lim : limbs 1000000000 F
  val : lval 1000000000 F + T * lval 1000000000 (L.take i) = lval 1000000000 F0 + 1000000000 ^ i * m
  miss : m ≤ T
theorem TakeInv.start {T : Nat} {F0 : List Nat} (L : List Nat) (h : limbs 1000000000 F0) : TakeInv T F0 L F0 0 0 := ⟨rfl, h, by simp [lval], Nat.zero_le _⟩
theorem take9 (l : List Nat) (i : Nat) : lval 1000000000 (l.take (i + 1)) = lval 1000000000 (l.take i) + 1000000000 ^ i * l.getD i 0 := by
  by_cases h : i < l.length
  · rw [List.take_succ_eq_append_getElem h, lval_snoc, List.length_take, Nat.min_eq_left (by omega)]
    simp [List.getD, h]
  · rw [List.take_of_length_le (by omega), List.take_of_length_le (by omega)]
    simp [List.getD, Nat.le_of_not_lt h]
/-- One place: q what is missing with the product there; its rest is taken off, with one more borrowed or not (b). -/
theorem TakeInv.step {T : Nat} {F0 L F : List Nat} {m i q d b : Nat} (h : TakeInv T F0 L F m i) (hi : i < F.length) (hq : q = m + T * L.getD i 0) (hd : d < 1000000000) (_hb : b ≤ 1)
    (he : d + q % 1000000000 = F[i] + 1000000000 * b) (hb0 : q % 1000000000 = 0 → b = 0) (hL : L.getD i 0 < 1000000000) : TakeInv T F0 L (F.set i d) (q / 1000000000 + b) (i + 1) := by
  refine ⟨by simp [h.len], limbs_set h.lim i _ hd, ?_, ?_⟩
  · have e1 := lval_set 1000000000 F i d hi
    have e2 := h.val
    rw [take9, Nat.mul_add, Nat.pow_succ]
    have e3 : q = 1000000000 * (q / 1000000000) + q % 1000000000 := (Nat.div_add_mod _ _).symm
    have e4 := congrArg (1000000000 ^ i * ·) he
    have e5 := congrArg (1000000000 ^ i * ·) e3
    have e6 := congrArg (1000000000 ^ i * ·) hq
    simp only [Nat.mul_add] at e4 e5 e6
    have m1 : T * (1000000000 ^ i * L.getD i 0) = 1000000000 ^ i * (T * L.getD i 0) := by rw [Nat.mul_left_comm]
    have m2 : 1000000000 ^ i * 1000000000 * (q / 1000000000 + b) = 1000000000 ^ i * (1000000000 * (q / 1000000000)) + 1000000000 ^ i * (1000000000 * b) := by
      rw [Nat.mul_assoc, ← Nat.mul_add, ← Nat.mul_add]
    omega
  · have h1 := h.miss
    have h2 : T * L.getD i 0 ≤ T * 999999999 := Nat.mul_le_mul_left _ (by omega)
    have h3 : q ≤ 1000000000 * T := by omega
    by_cases h0 : q % 1000000000 = 0
    · rw [hb0 h0]; omega
    · omega
end Cub
namespace Go.Proofs.YtijifpbpjinmhaaGreatDoor
open Go.RowKit
theorem Own.below {w w' : World} {g g' : Nat} {l : List Nat} (h : Own w g' l) (hb : Below g w w') (hg : g' < g) : Own w' g' l := (hb.block g' hg).trans h
theorem takeAway_any (g n cap : Nat) (F0 L : List Nat) (ab : Option Addr) (nb cb T : Nat) (w : World) (hF : Own w g F0) (hn : n = F0.length) (hn1 : n ≤ 10000000) (hlF : Cub.limbs 1000000000 F0)
    (hnb : nb = L.length) (hnbn : nb ≤ n) (hlL : Cub.limbs 1000000000 L) (hcap : n ≤ cap) (hT : T < 1000000000) (hc : ∀ W, Below g w W → ∀ i (hi : i < L.length), ∃ b o, ab = some ⟨b, o, none⟩ ∧ W.cell? ⟨b, o + i, none⟩ = some (.int .u64 (L[i] : Int))) :
    Calls Tryz.prog 199 #[.slice (some ⟨g, 0, none⟩) n cap, .slice ab nb cb, .int .u64 (T : Int)] w fun e w' => ∃ (m : Nat) (F : List Nat), e = .returned (.int .u64 (m : Int)) ∧ Own w' g F ∧ F.length = n ∧ Cub.limbs 1000000000 F ∧ Cub.lval 1000000000 F + T * Cub.lval 1000000000 L = Cub.lval 1000000000 F0 + 1000000000 ^ n * m ∧ m ≤ T ∧ Below g w w' := by
  have HN := hide (And.intro hn hnb)
  have HC := hide hc
  have HL := hide (And.intro hlF hlL)
  have HF := hide hF
  clear hn hnb hc hlF hlL hF
  go_enter Tryz.func199, Tryz.ntmps199
  go_wp2
  go_loopw [7, 12] (fun c t wr => ∃ (m i : Nat) (F : List Nat), c = .int .u64 (m : Int) ∧ t = .int .i64 (i : Int) ∧ i ≤ n ∧ m ≤ T ∧ Hid (Cub.TakeInv T F0 L F m i) ∧ Hid (Own wr g F) ∧ Hid (Below g w wr)) (fun _ t _ => n - (intOf t).toNat)
  case atStart => exact ⟨0, 0, F0, rfl, rfl, by omega, by omega, Cub.TakeInv.start L (unhide HL).1, HF, Below.refl _ _⟩
  case round =>
    obtain ⟨m, i, F, rfl, rfl, hi, hm, HI, HO, HB⟩ := hrel
    have hFl : Hid (F.length = n) := by rw [(unhide HI).len]; exact (unhide HN).1.symm
    by_cases hin : i < n
    · by_cases hbrk : nb ≤ i ∧ m = 0
      · obtain ⟨h1, rfl⟩ := hbrk
        have HV : Hid (Cub.lval 1000000000 F + T * Cub.lval 1000000000 L = Cub.lval 1000000000 F0 + 1000000000 ^ n * 0) := by
          have h := (unhide HI).val
          rw [List.take_of_length_le (by have := (unhide HN).2; omega)] at h
          rw [Nat.mul_zero] at h ⊢; exact h
        go_wp2
        go_ret
        exact ⟨0, F, rfl, unhide HO, unhide hFl, (unhide HI).lim, unhide HV, by omega, unhide HB⟩
      · have hiF : i < F.length := by rw [unhide hFl]; exact hin
        obtain ⟨f, hf⟩ : ∃ f, f = F[i] := ⟨_, rfl⟩
        have hfB : f < 1000000000 := by rw [hf]; exact (unhide HI).lim _ (List.getElem_mem hiF)
        have hcf := (unhide HO).cell i hiF
        rw [← hf] at hcf
        have hff := (unhide HO).frozen i
        have HFv := hide hf
        obtain ⟨lv, hlv⟩ : ∃ lv, lv = L.getD i 0 := ⟨_, rfl⟩
        have hlB : lv < 1000000000 := by
          rw [hlv]
          by_cases h : i < L.length
          · simp only [List.getD, List.getElem?_eq_getElem h, Option.getD_some]; exact (unhide HL).2 _ (List.getElem_mem h)
          · simp [List.getD, Nat.le_of_not_lt h]
        have HLB : Hid (L.getD i 0 < 1000000000) := by rw [← hlv]; exact hlB
        by_cases hib : i < nb
        · have hiL : i < L.length := by have := (unhide HN).2; omega
          obtain ⟨b, o, rfl, hcl⟩ := unhide HC wr (unhide HB) i hiL
          rw [show L[i] = lv by rw [hlv, List.getD_eq_getElem?_getD, List.getElem?_eq_getElem hiL]; rfl] at hcl
          obtain ⟨pr, hpr⟩ : ∃ pr, pr = T * lv := ⟨_, rfl⟩
          have hprB : pr ≤ 999999998000000001 := by rw [hpr]; exact Nat.mul_le_mul (show T ≤ 999999999 by omega) (show lv ≤ 999999999 by omega)
          have hmul : (T : Int) * (lv : Int) = (pr : Int) := by rw [hpr]; simp
          have HQ : Hid (m + pr = m + T * L.getD i 0) := by rw [hpr, ← hlv]; exact rfl
          clear hf hlv hpr hbrk
          by_cases hbor : f < (m + pr) % 1000000000
          · have HI' : Hid (Cub.TakeInv T F0 L (F.set i (f + 1000000000 - (m + pr) % 1000000000)) ((m + pr) / 1000000000 + 1) (i + 1)) :=
              (unhide HI).step hiF (unhide HQ) (by omega) (by omega) (by rw [← unhide HFv]; omega) (by omega) (unhide HLB)
            have HO' : Hid (Own ((wr.setCell ⟨g, i, none⟩ (.int .u64 ((f : Int) + 1000000000))).setCell ⟨g, i, none⟩ (.int .u64 ((f : Int) + 1000000000 - ((m : Int) + (pr : Int)) % 1000000000))) g (F.set i (f + 1000000000 - (m + pr) % 1000000000))) := by
              have h := ((unhide HO).set i (f + 1000000000)).set i (f + 1000000000 - (m + pr) % 1000000000)
              rw [List.set_set] at h
              rw [show ((f + 1000000000 : Nat) : Int) = (f : Int) + 1000000000 by omega, show ((f + 1000000000 - (m + pr) % 1000000000 : Nat) : Int) = (f : Int) + 1000000000 - ((m : Int) + (pr : Int)) % 1000000000 by omega] at h
              exact h
            have HB' : Hid (Below g w ((wr.setCell ⟨g, i, none⟩ (.int .u64 ((f : Int) + 1000000000))).setCell ⟨g, i, none⟩ (.int .u64 ((f : Int) + 1000000000 - ((m : Int) + (pr : Int)) % 1000000000)))) := ((unhide HB).setCell (Nat.le_refl _) _).setCell (Nat.le_refl _) _
            have hbi : (f : Int) < ((m : Int) + (pr : Int)) % 1000000000 := by omega
            clear HI HO HB
            go_wp2
            go_roundw
            case rel => exact ⟨(m + pr) / 1000000000 + 1, i + 1, _, by go_num, by go_num, by omega, (unhide HI').miss, HI', HO', HB'⟩
            case measure => simp [intOf]; omega
          · have HI' : Hid (Cub.TakeInv T F0 L (F.set i (f - (m + pr) % 1000000000)) ((m + pr) / 1000000000 + 0) (i + 1)) :=
              (unhide HI).step hiF (unhide HQ) (by omega) (by omega) (by rw [← unhide HFv]; omega) (fun _ => rfl) (unhide HLB)
            have HO' : Hid (Own (wr.setCell ⟨g, i, none⟩ (.int .u64 ((f : Int) - ((m : Int) + (pr : Int)) % 1000000000))) g (F.set i (f - (m + pr) % 1000000000))) := by
              have h := (unhide HO).set i (f - (m + pr) % 1000000000)
              rw [show ((f - (m + pr) % 1000000000 : Nat) : Int) = (f : Int) - ((m : Int) + (pr : Int)) % 1000000000 by omega] at h
              exact h
            have HB' : Hid (Below g w (wr.setCell ⟨g, i, none⟩ (.int .u64 ((f : Int) - ((m : Int) + (pr : Int)) % 1000000000)))) := (unhide HB).setCell (Nat.le_refl _) _
            have hbi : ¬ (f : Int) < ((m : Int) + (pr : Int)) % 1000000000 := by omega
            clear HI HO HB
            go_wp2
            go_roundw
            case rel => exact ⟨(m + pr) / 1000000000 + 0, i + 1, _, by go_num, by go_num, by omega, (unhide HI').miss, HI', HO', HB'⟩
            case measure => simp [intOf]; omega
        · have hm0 : 0 < m := by omega
          have hl0 : lv = 0 := by rw [hlv, List.getD_eq_getElem?_getD, List.getElem?_eq_none (by have := (unhide HN).2; omega)]; rfl
          have HQ : Hid (m = m + T * L.getD i 0) := by rw [← hlv, hl0]; exact rfl
          have hmz : ((m : Int) == 0) = false := by rw [beq_eq_false_iff_ne]; omega
          clear hf hlv hbrk hl0
          by_cases hbor : f < m % 1000000000
          · have HI' : Hid (Cub.TakeInv T F0 L (F.set i (f + 1000000000 - m % 1000000000)) (m / 1000000000 + 1) (i + 1)) :=
              (unhide HI).step hiF (unhide HQ) (by omega) (by omega) (by rw [← unhide HFv]; omega) (by omega) (unhide HLB)
            have HO' : Hid (Own ((wr.setCell ⟨g, i, none⟩ (.int .u64 ((f : Int) + 1000000000))).setCell ⟨g, i, none⟩ (.int .u64 ((f : Int) + 1000000000 - (m : Int) % 1000000000))) g (F.set i (f + 1000000000 - m % 1000000000))) := by
              have h := ((unhide HO).set i (f + 1000000000)).set i (f + 1000000000 - m % 1000000000)
              rw [List.set_set] at h
              rw [show ((f + 1000000000 : Nat) : Int) = (f : Int) + 1000000000 by omega, show ((f + 1000000000 - m % 1000000000 : Nat) : Int) = (f : Int) + 1000000000 - (m : Int) % 1000000000 by omega] at h
              exact h
            have HB' : Hid (Below g w ((wr.setCell ⟨g, i, none⟩ (.int .u64 ((f : Int) + 1000000000))).setCell ⟨g, i, none⟩ (.int .u64 ((f : Int) + 1000000000 - (m : Int) % 1000000000)))) := ((unhide HB).setCell (Nat.le_refl _) _).setCell (Nat.le_refl _) _
            have hbi : (f : Int) < (m : Int) % 1000000000 := by omega
            clear HI HO HB
            go_wp2
            go_roundw
            case rel => exact ⟨m / 1000000000 + 1, i + 1, _, by go_num, by go_num, by omega, (unhide HI').miss, HI', HO', HB'⟩
            case measure => simp [intOf]; omega
          · have HI' : Hid (Cub.TakeInv T F0 L (F.set i (f - m % 1000000000)) (m / 1000000000 + 0) (i + 1)) :=
              (unhide HI).step hiF (unhide HQ) (by omega) (by omega) (by rw [← unhide HFv]; omega) (fun _ => rfl) (unhide HLB)
            have HO' : Hid (Own (wr.setCell ⟨g, i, none⟩ (.int .u64 ((f : Int) - (m : Int) % 1000000000))) g (F.set i (f - m % 1000000000))) := by
              have h := (unhide HO).set i (f - m % 1000000000)
              rw [show ((f - m % 1000000000 : Nat) : Int) = (f : Int) - (m : Int) % 1000000000 by omega] at h
              exact h
            have HB' : Hid (Below g w (wr.setCell ⟨g, i, none⟩ (.int .u64 ((f : Int) - (m : Int) % 1000000000)))) := (unhide HB).setCell (Nat.le_refl _) _
            have hbi : ¬ (f : Int) < (m : Int) % 1000000000 := by omega
            clear HI HO HB
            go_wp2
            go_roundw
            case rel => exact ⟨m / 1000000000 + 0, i + 1, _, by go_num, by go_num, by omega, (unhide HI').miss, HI', HO', HB'⟩
            case measure => simp [intOf]; omega
    · have hie : i = n := by omega
      subst hie
      have HV : Hid (Cub.lval 1000000000 F + T * Cub.lval 1000000000 L = Cub.lval 1000000000 F0 + 1000000000 ^ i * m) := by
        have h := (unhide HI).val
        rw [List.take_of_length_le (by have := (unhide HN).2; omega)] at h
        exact h
      go_wp2
      go_ret
      exact ⟨m, F, rfl, unhide HO, unhide hFl, (unhide HI).lim, unhide HV, hm, unhide HB⟩
end Go.Proofs.YtijifpbpjinmhaaGreatDoor
namespace Go.Proofs.YtijifpbpjinmhaaGreatDoor
open Go.RowKit
theorem splice_all (l : List Nat) (n : Nat) (h : n = l.length) : splice (u64s (List.replicate n 0)) 0 (u64s l) = u64s l := by
  subst h
  unfold splice u64s
  simp
theorem sub_last {n : Nat} {F lx ly : List Nat} {m : Nat} (hlim : Cub.limbs 1000000000 F) (hl : F.length = n) (h : Cub.lval 1000000000 F + 1 * Cub.lval 1000000000 ly = Cub.lval 1000000000 lx + 1000000000 ^ n * m)
    (hle : Cub.lval 1000000000 ly ≤ Cub.lval 1000000000 lx) : Cub.lval 1000000000 F = Cub.lval 1000000000 lx - Cub.lval 1000000000 ly := by
  have h1 := Cub.lval_lt hlim
  rw [hl] at h1
  rcases Nat.eq_zero_or_pos m with h0 | h0
  · subst h0; omega
  · have : 1000000000 ^ n * 1 ≤ 1000000000 ^ n * m := Nat.mul_le_mul_left _ h0
    omega
theorem norm9_len_le {x y : List Nat} (hx : Cub.limbs 1000000000 x) (hy : Cub.normal 1000000000 y) (h : Cub.lval 1000000000 y ≤ Cub.lval 1000000000 x) : y.length ≤ x.length :=
  Cub.len_le hy (Nat.lt_of_le_of_lt h (Cub.lval_lt hx))
/-- How far BigOf has come: what is told already, and what is left. -/
def OfInv (u : Nat) (L : List Nat) (q : Nat) : Prop := Cub.limbs 1000000000 L ∧ Cub.lval 1000000000 L + 1000000000 ^ L.length * q = u ∧ (q = 0 → Cub.normal 1000000000 L)
theorem OfInv.start (u : Nat) : OfInv u [] u := ⟨fun _ h => (by cases h), by simp [Cub.lval], fun _ => Cub.normal_nil _⟩
theorem OfInv.step {u : Nat} {L : List Nat} {q : Nat} (h : OfInv u L q) (hq : 0 < q) : OfInv u (L ++ [q % 1000000000]) (q / 1000000000) := by
  obtain ⟨h1, h2, h3⟩ := h
  have hl : Cub.limbs 1000000000 (L ++ [q % 1000000000]) := Cub.limbs_append.2 ⟨h1, fun x hx => by simp at hx; subst hx; exact Nat.mod_lt _ (by decide)⟩
  refine ⟨hl, ?_, fun h0 => ⟨hl, ?_⟩⟩
  · rw [Cub.lval_snoc, List.length_append, List.length_singleton, Nat.pow_succ, Nat.mul_assoc, Nat.add_assoc, ← Nat.mul_add]
    rw [Nat.mod_add_div]; exact h2
  · rw [List.getLast?_append]
    simp
    omega
theorem OfInv.short {u : Nat} {L : List Nat} {q : Nat} (h : OfInv u L q) (hq : 0 < q) (hu : u < 18446744073709551616) : L.length ≤ 2 := by
  have h2 := h.2.1
  have h3 : 1000000000 ^ L.length ≤ 1000000000 ^ L.length * q := Nat.le_mul_of_pos_right _ hq
  apply Decidable.byContradiction
  intro hc
  have h4 : 1000000000 ^ 3 ≤ 1000000000 ^ L.length := Nat.pow_le_pow_right (by decide) (by omega)
  omega
theorem bigOf_any (u : Nat) (w : World) (hu : u < 18446744073709551616) :
    Calls Tryz.prog 73 #[.int .u64 (u : Int)] w fun e w' => ∃ a n c, e = .returned (.agg #[.slice a n c]) ∧ IsBig w' (.agg #[.slice a n c]) u ∧ Below w.heap.size w w' := by
  obtain ⟨i0, hi, hz0, hz1, hz2⟩ := info_parts Tryz.info41
  go_enter Tryz.func73, Tryz.ntmps73
  go_wp2
  go_loopw [0, 3] (fun t v wr => ∃ (q : Nat) (L : List Nat), t = .int .u64 (q : Int) ∧ q < 18446744073709551616 ∧ L.length ≤ 3 ∧ Hid (OfInv u L q) ∧ wr.ownsRow (w.heap.size + 1) 41 1 v L.length (u64s L) ∧ Below (w.heap.size + 1) (w.alloc (.cells #[.slice none 0 0] 51)) wr) (fun t _ _ => (intOf t).toNat)
  case atStart => exact ⟨u, [], rfl, hu, by simp, OfInv.start u, ⟨rfl, Or.inl ⟨rfl, rfl⟩⟩, Below.refl _ _⟩
  case round =>
    obtain ⟨q, L, rfl, hq, hL, HI, hown, hb⟩ := hrel
    by_cases h0 : 0 < q
    · have hL2 := (unhide HI).short h0 hu
      have HI' := hide ((unhide HI).step h0)
      have hr : q % 1000000000 < 1000000000 := Nat.mod_lt _ (by decide)
      go_wp2_with (at_builtin; refine wpList_append_own _ rfl _ _ 49 rfl (w.heap.size + 1) 41 i0 (.int .u64 0) 1 8 Tryz.underlying49 hi hz0 hz1 hz2 rfl (by decide) _ _ _ rfl (hown.alloc _) ⟨wr.heap.size, 0, none⟩ 1 1 [.int .u64 ((q % 1000000000 : Nat) : Int)] rfl rfl (cell_one_new _ _ _) (fun x hx => by simp at hx; subst hx; rfl) (by unfold maxLen; omega) (by omega) (by have := hb.size; simp at this ⊢; omega) ?_; intro v' w1 hown' hgrow _)
      have hsz := hb.size
      have hb' : Below (w.heap.size + 1) (w.alloc (.cells #[.slice none 0 0] 51)) w1 := (hb.alloc (by simp at hsz; omega) _).grown hgrow (by simp at hsz ⊢; omega) (fun j hj => (hown.lt j hj).1)
      have hown2 : w1.ownsRow (w.heap.size + 1) 41 1 v' (L ++ [q % 1000000000]).length (u64s (L ++ [q % 1000000000])) := by simpa [u64s] using hown'
      clear hgrow hown' hown hsz
      go_wp2
      go_roundw
      case rel => exact ⟨q / 1000000000, L ++ [q % 1000000000], by go_num, by omega, by simp; omega, HI', hown2, hb'⟩
      case measure => simp [intOf]; omega
    · have hq0 : q = 0 := by omega
      subst hq0
      have hrow := Row.of_own hown
      have HF : Hid (Cub.lval 1000000000 L = u ∧ Cub.normal 1000000000 L) := ⟨by have := (unhide HI).2.1; simpa using this, (unhide HI).2.2 rfl⟩
      have hsz : w.heap.size + 1 ≤ wr.heap.size := by have := hb.size; simpa using this
      have hc0 : wr.cell? ⟨w.heap.size, 0, none⟩ = some (.slice none 0 0) := by rw [hb.cell (p := ⟨w.heap.size, 0, none⟩) (by simp)]; simp
      have hf0 : wr.frozen? ⟨w.heap.size, 0, none⟩ = false := by rw [hb.frozen (p := ⟨w.heap.size, 0, none⟩) (by simp)]; simp
      obtain ⟨a2, cap2, rfl, hcap2⟩ := hrow.form
      have HRow := hide hrow
      clear hrow hown
      go_wp2
      refine bodyPost_ret (v := .agg #[.slice a2 L.length cap2]) (by simp [results, Tryz.results73, go_sem, hc0]) rfl ⟨_, _, _, rfl, ?_, ?_⟩
      · exact ⟨_, _, rfl, (unhide HRow).box _ hc0 (fun _ _ h => by cases h), (unhide HF).2, (unhide HF).1⟩
      · exact (((Below.refl _ _).alloc (Nat.le_refl _) _).trans (hb.mono (Nat.le_succ _))).setCell (Nat.le_refl _) _
end Go.Proofs.YtijifpbpjinmhaaGreatDoor
namespace Cub
theorem takeB (B : Nat) (l : List Nat) (i : Nat) : lval B (l.take (i + 1)) = lval B (l.take i) + B ^ i * l.getD i 0 := by
  by_cases h : i < l.length
  · rw [List.take_succ_eq_append_getElem h, lval_snoc, List.length_take, Nat.min_eq_left (by omega)]
    simp [List.getD, h]
  · rw [List.take_of_length_le (by omega), List.take_of_length_le (by omega)]
    simp [List.getD, Nat.le_of_not_lt h]
/-- A list in the making, with what is carried to place p: together they are V. -/
structure Acc (B : Nat) (O : List Nat) (c p V : Nat) : Prop where
  lim : limbs B O
  val : lval B O + B ^ p * c = V
theorem Acc.step {B : Nat} {O : List Nat} {c p V : Nat} (h : Acc B O c p V) (hB : 0 < B) (hp : p < O.length) (t : Nat) :
    Acc B (O.set p ((c + O[p] + t) % B)) ((c + O[p] + t) / B) (p + 1) (V + B ^ p * t) := by
  refine ⟨limbs_set h.lim p _ (Nat.mod_lt _ hB), ?_⟩
  have e1 := lval_set B O p ((c + O[p] + t) % B) hp
  have e2 := h.val
  have e3 : c + O[p] + t = B * ((c + O[p] + t) / B) + (c + O[p] + t) % B := (Nat.div_add_mod _ _).symm
  generalize (c + O[p] + t) / B = q at *
  generalize (c + O[p] + t) % B = r at *
  have e4 := congrArg (B ^ p * ·) e3
  simp only [Nat.mul_add] at e4
  rw [Nat.pow_succ]
  have m1 : B ^ p * B * q = B ^ p * (B * q) := Nat.mul_assoc _ _ _
  omega
theorem Acc.none {B : Nat} {O : List Nat} {c p V : Nat} (h : Acc B O c p V) (hV : V < B ^ p) : c = 0 := by
  rcases Nat.eq_zero_or_pos c with h0 | h0
  · exact h0
  · have : B ^ p * 1 ≤ B ^ p * c := Nat.mul_le_mul_left _ h0
    have := h.val
    omega
theorem carry_lt (B c o x y : Nat) (hc : c < B) (ho : o < B) (hx : x < B) (hy : y < B) : (c + o + x * y) / B < B := by
  apply Nat.div_lt_of_lt_mul
  obtain ⟨b, rfl⟩ : ∃ b, B = b + 1 := ⟨B - 1, by omega⟩
  have h1 : x * y ≤ b * b := Nat.mul_le_mul (by omega) (by omega)
  have h2 : (b + 1) * (b + 1) = b * b + b + b + 1 := by rw [Nat.add_mul, Nat.mul_add]; omega
  omega
theorem carry_lt' (B c o : Nat) (hc : c < B) (ho : o < B) (hB : 2 ≤ B) : (c + o) / B < B := by
  apply Nat.div_lt_of_lt_mul
  have : B * 2 ≤ B * B := Nat.mul_le_mul_left _ hB
  omega
theorem get_zero {B : Nat} {O : List Nat} {p : Nat} (h : lval B O < B ^ p) (hp : p < O.length) : O[p] = 0 := by
  rcases Nat.eq_zero_or_pos O[p] with h0 | h0
  · exact h0
  · have e := lval_set B O p 0 hp
    have : B ^ p * 1 ≤ B ^ p * O[p] := Nat.mul_le_mul_left _ h0
    omega
theorem mul_lt (B : Nat) (x y : List Nat) (hx : limbs B x) (hy : limbs B y) (i : Nat) : lval B (x.take i) * lval B y < B ^ (i + y.length) ∨ B = 0 := by
  rcases Nat.eq_zero_or_pos B with h0 | h0
  · exact Or.inr h0
  · left
    have h1 := lval_lt (B := B) (l := x.take i) (fun z hz => hx z (List.mem_of_mem_take hz))
    have h2 := lval_lt hy
    have h3 : B ^ (x.take i).length ≤ B ^ i := Nat.pow_le_pow_right h0 (List.length_take_le _ _)
    rw [Nat.pow_add]
    exact Nat.mul_lt_mul'' (by omega) h2
theorem lval_zeros (B n : Nat) : lval B (List.replicate n 0) = 0 := by
  induction n with
  | zero => rfl
  | succ n ih => simp [List.replicate_succ, lval, ih]
theorem limbs_zeros (B n : Nat) (hB : 0 < B) : limbs B (List.replicate n 0) := fun x hx => by
  rw [List.mem_replicate] at hx; omega
/-- One more limb of y. -/
theorem val_inner (B a i k : Nat) (y : List Nat) (V : Nat) : V + B ^ i * (a * lval B (y.take k)) + B ^ (i + k) * (a * y.getD k 0) = V + B ^ i * (a * lval B (y.take (k + 1))) := by
  rw [takeB, Nat.mul_add, Nat.mul_add, Nat.pow_add]
  have : B ^ i * (a * (B ^ k * y.getD k 0)) = B ^ i * B ^ k * (a * y.getD k 0) := by
    rw [Nat.mul_left_comm a, ← Nat.mul_assoc]
  omega
theorem val_outer (B i : Nat) (x y : List Nat) : lval B (x.take i) * lval B y + B ^ i * (x.getD i 0 * lval B y) = lval B (x.take (i + 1)) * lval B y := by
  rw [takeB, Nat.add_mul, Nat.mul_assoc]
end Cub

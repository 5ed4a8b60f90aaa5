/- dim.Parse, where the text has no fault: byte by byte. -/
import Derived.Test.YtccnbnfafhpeaaaDoorTake
import Derived.Test.YtccnbnfafhpeaaaDoorShelf
import Derived.Test.YtccnbnfafhpeaaaDoorPrint
namespace Go.Proofs.YtccnbnfafhpeaaaDoor
open Go.RowKit

/-- The reader goes from one state to another, byte by byte. -/
inductive Steps : List UInt8 → Nat → Rd → Rd → Prop
  | nil (p : Nat) (s : Rd) : Steps [] p s s
  | cons (c : UInt8) (cs : List UInt8) (p : Nat) (s s1 s2 : Rd) : TakeOK s (p : Int) (c.toNat : Int) s1 → Steps cs (p + 1) s1 s2 → Steps (c :: cs) p s s2
theorem Steps.split {c : UInt8} {cs : List UInt8} {p : Nat} {s s2 : Rd} (h : Steps (c :: cs) p s s2) : ∃ s1, TakeOK s (p : Int) (c.toNat : Int) s1 ∧ Steps cs (p + 1) s1 s2 := by
  cases h with
  | cons _ _ _ _ s1 _ h1 h2 => exact ⟨s1, h1, h2⟩
theorem Steps.append {a b : List UInt8} {p : Nat} {s s1 s2 : Rd} (h1 : Steps a p s s1) (h2 : Steps b (p + a.length) s1 s2) : Steps (a ++ b) p s s2 := by
  induction h1 with
  | nil p s => simpa using h2
  | cons c cs p s t u h _ ih =>
    refine Steps.cons c (cs ++ b) p s t s2 h (ih ?_)
    rw [show p + 1 + cs.length = p + (c :: cs).length by simp; omega]
    exact h2
theorem Steps.end_ {cs : List UInt8} {p : Nat} {s s2 : Rd} (h : Steps cs p s s2) (hc : cs = []) : s = s2 := by
  subst hc; cases h; rfl
def rd0 : Rd := ⟨[0, 0, 0, 0, 0, 0, 0, 0], 0, false, 0, 0, 0, false, 0⟩
theorem OwnR.new (w : World) (s : Rd) (h : s.prod.length = 8) : OwnR (w.alloc (.cells s.cells.toArray 60)) w.heap.size s := ⟨h, heap_alloc_new w _⟩
theorem res3 {fn : Func} {p u v : Tmp} (h : fn.results = #[.cell p 24, .tmp u, .tmp v]) (tmps : Array Value) (w : World) (g : Nat) (l : List Int) (hl : l.length = 8)
    (hp : tmps.getD p undef = .pointer (some ⟨g, 0, none⟩)) (ho : Own8 w g l) : (results fn tmps).run Tryd.prog w = .ok (.tuple #[.agg (cells8 l), tmps.getD u undef, tmps.getD v undef]) w := by
  have hlv := run_loadVar_row (P := Tryd.prog) w g 24 24 (cells8 l) (0, 0) _ ho Tryd.underlying24 rfl (by rw [info24, size8, hl])
  simp only [results, h]
  have hp' : tmps[p]?.getD undef = .pointer (some ⟨g, 0, none⟩) := by simpa using hp
  simp [Result.andThen, hp', asAddr, hlv]

set_option maxRecDepth 100000 in
set_option maxHeartbeats 400000 in
theorem parse_one (w : World) : Calls Tryd.prog 24 #[.string ⟨#[49]⟩] w fun e w' => e = .returned (.tuple #[.agg #[.int .i64 0, .int .i64 0, .int .i64 0, .int .i64 0, .int .i64 0, .int .i64 0, .int .i64 0, .int .i64 0], .int .i64 0, .int .i64 0]) ∧ Below w.heap.size w w' := by
  have HC := hide (Tryd.strings_CutPrefix ⟨#[49]⟩ ⟨#[49]⟩)
  have h1 : Lib.trimPrefix [49] [49] = [] := by decide
  have h2 : Lib.hasPrefix [49] [49] = true := by decide
  simp only [h1, h2] at HC
  clear h1 h2
  go_enter Tryd.func24, Tryd.ntmps24
  go_wp2_with (go_at_call 44; refine (unhide HC _).mono ?_; rintro e w' ⟨rfl, rfl⟩)
  exact bodyPost_ret (v := .tuple #[.agg #[.int .i64 0, .int .i64 0, .int .i64 0, .int .i64 0, .int .i64 0, .int .i64 0, .int .i64 0, .int .i64 0], .int .i64 0, .int .i64 0]) (by simp [results, Tryd.results24, go_sem]) rfl ⟨rfl, (Below.refl _ _).alloc (Nat.le_refl _) _⟩

theorem heap2 {w w' : World} {g b : Nat} {o : Obj} (h : Others g w w') (hb : w.heap[b]? = some o) (hne : b ≠ g) : w'.heap[b]? = some o := (h.2 b (Array.getElem?_eq_some_iff.1 hb).1 hne).trans hb
set_option maxRecDepth 100000 in
set_option maxHeartbeats 1000000 in
theorem parse_ok (s : ByteArray) (sE sF : Rd) (w : World) (h49 : Lib.hasPrefix s.data.toList [49] = false) (hasc : ∀ k (h : k < s.size), s[k].toNat < 128)
    (hst : Steps s.data.toList 0 rd0 sE) (hend : TakeOK sE (s.size : Int) (-1) sF) (hF : sF.prod.length = 8) :
    Calls Tryd.prog 24 #[.string s] w fun e w' => e = .returned (.tuple #[.agg (cells8 sF.prod), .int .i64 0, .int .i64 0]) ∧ Below w.heap.size w w' := by
  have HC := hide (Tryd.strings_CutPrefix s ⟨#[49]⟩)
  rw [show ((⟨#[49]⟩ : ByteArray).data.toList) = [49] from rfl, h49] at HC
  have HS := hide hst
  have HE := hide hend
  have HA := hide hasc
  generalize (⟨(Lib.trimPrefix s.data.toList [49]).toArray⟩ : ByteArray) = tp at *
  clear hst hend hasc h49
  go_enter Tryd.func24, Tryd.ntmps24
  go_upto_region 8 with (go_at_call 44; refine (unhide HC _).mono ?_; rintro e w' ⟨rfl, rfl⟩)
  go_loopw [8] (fun _ wr => ∃ (k : Nat) (st : Rd), k ≤ s.size ∧ Hid (wr.heap[w.heap.size + 1 + 1]? = some (.stringIter s k)) ∧ Hid (OwnR wr (w.heap.size + 1) st) ∧ Hid (Own8 wr w.heap.size [0, 0, 0, 0, 0, 0, 0, 0]) ∧ Hid (Steps (s.data.toList.drop k) k st sE) ∧ Hid (Below w.heap.size w wr)) (fun _ wr => s.size - wr.iterPos (w.heap.size + 1 + 1))
  case atStart =>
    refine ⟨0, rd0, Nat.zero_le _, ?_, ?_, ?_, ?_, ?_⟩
    · show _ = _
      rw [show w.heap.size + 1 + 1 = ((w.alloc (.cells #[.int .i64 0, .int .i64 0, .int .i64 0, .int .i64 0, .int .i64 0, .int .i64 0, .int .i64 0, .int .i64 0] 24)).alloc (.cells #[.int .i64 0, .int .i64 0, .int .i64 0, .int .i64 0, .int .i64 0, .int .i64 0, .int .i64 0, .int .i64 0, .int .i64 0, .bool false, .int .i64 0, .int .i64 0, .int .i64 0, .bool false, .int .i64 0] 60)).heap.size by simp]
      exact World.iter_heap _ _ _
    · have h := OwnR.new (w.alloc (.cells #[.int .i64 0, .int .i64 0, .int .i64 0, .int .i64 0, .int .i64 0, .int .i64 0, .int .i64 0, .int .i64 0] 24)) rd0 rfl
      rw [size_alloc] at h
      exact h.alloc _
    · exact ((Own8.new w [0, 0, 0, 0, 0, 0, 0, 0]).alloc _).alloc _
    · exact unhide HS
    · exact (((Below.refl _ _).alloc (Nat.le_refl _) _).alloc (by simp) _).alloc (by simp; omega) _
  case round =>
    obtain ⟨k, st, hk, HI, HO, HZ, HST, HB⟩ := hrel
    by_cases hlt : k < s.size
    · obtain ⟨s1, ht, hs1⟩ := Steps.split (c := s[k]) (cs := s.data.toList.drop (k + 1)) (by
        have h := unhide HST
        rw [List.drop_eq_getElem_cons (by simpa using hlt)] at h
        exact h)
      obtain ⟨W2, hW2⟩ : ∃ W2, W2 = wr.iterAt (w.heap.size + 1 + 1) s (k + 1) := ⟨_, rfl⟩
      have hnx : ∀ ty, (Instr.next (.pointer (some ⟨w.heap.size + 1 + 1, 0, none⟩)) true ty).run Tryd.prog wr = .ok (.tuple #[.bool true, .int .i64 k, .int .i32 (s[k].toNat : Int)]) W2 := fun ty => by
        rw [hW2]
        exact Lib.run_next_ascii_at wr _ s k ty (unhide HI) hlt (unhide HA k hlt)
      have HI2 : Hid (W2.heap[w.heap.size + 1 + 1]? = some (.stringIter s (k + 1))) := by show W2.heap[_]? = _; rw [hW2]; exact Lib.iterAt_heap _ _ _ _ _ (unhide HI)
      have HO2 : OwnR W2 (w.heap.size + 1) st := by rw [hW2]; exact ⟨(unhide HO).1, (Lib.iterAt_other _ _ _ _ _ (by omega)).trans (unhide HO).2⟩
      have HZ2 : Hid (Own8 W2 w.heap.size [0, 0, 0, 0, 0, 0, 0, 0]) := by show Own8 W2 _ _; rw [hW2]; exact (Lib.iterAt_other _ _ _ _ _ (by omega)).trans (unhide HZ)
      have HB2 : Hid (Below w.heap.size w W2) := by show Below _ _ W2; rw [hW2]; exact Lib.below_iterAt (unhide HB) (by omega) _ _
      have HM : Hid (wr.iterPos (w.heap.size + 1 + 1) = k) := iterPos_of (unhide HI)
      have HT := hide (ht (w.heap.size + 1) W2 HO2)
      have HS1 := hide hs1
      clear hW2 HI HO HZ HB HST ht hs1 HO2
      generalize s[k].toNat = cn at *
      go_wp2_with (go_at_call 45; refine (unhide HT).mono ?_; rintro e w3 ⟨rfl, ho3, hk3⟩)
      have HI3 := hide (heap2 hk3 (unhide HI2) (by omega))
      have HO3 := hide ho3
      have HZ3 : Hid (Own8 w3 w.heap.size [0, 0, 0, 0, 0, 0, 0, 0]) := heap2 hk3 (unhide HZ2) (by omega)
      have HB3 := hide (hk3.below (unhide HB2) (by omega))
      clear ho3 hk3
      go_roundw
      case rel => exact ⟨k + 1, s1, by omega, HI3, HO3, HZ3, HS1, HB3⟩
      case measure => rw [unhide HM, iterPos_of (unhide HI3)]; omega
    · obtain rfl : k = s.size := by omega
      have hnx : ∀ ty, (Instr.next (.pointer (some ⟨w.heap.size + 1 + 1, 0, none⟩)) true ty).run Tryd.prog wr = .ok (.tuple #[.bool false]) wr := fun ty => Lib.run_next_end_at wr _ s _ ty (unhide HI) (by omega)
      obtain rfl := Steps.end_ (unhide HST) (List.drop_of_length_le (by simp))
      have HT := hide (unhide HE (w.heap.size + 1) wr (unhide HO))
      obtain ⟨r0, r1, r2, r3, r4, r5, r6, r7, hR⟩ := list8 sF.prod hF
      have HR := hide hR
      clear hR hF
      go_upto_region 16 with (go_at_call 45; refine (unhide HT).mono ?_; rintro e w3 ⟨rfl, ho3, hk3⟩)
      have HZ3 : Hid (Own8 w3 w.heap.size [0, 0, 0, 0, 0, 0, 0, 0]) := heap2 hk3 (unhide HZ) (by omega)
      have HB3 := hide (hk3.below (unhide HB) (by omega))
      obtain ⟨c0, c1, c2, c3, c4, c5, c6, c7⟩ : w3.cell? ⟨w.heap.size + 1, 0, none⟩ = some (.int .i64 r0) ∧ w3.cell? ⟨w.heap.size + 1, 1, none⟩ = some (.int .i64 r1) ∧ w3.cell? ⟨w.heap.size + 1, 2, none⟩ = some (.int .i64 r2) ∧ w3.cell? ⟨w.heap.size + 1, 3, none⟩ = some (.int .i64 r3) ∧ w3.cell? ⟨w.heap.size + 1, 4, none⟩ = some (.int .i64 r4) ∧ w3.cell? ⟨w.heap.size + 1, 5, none⟩ = some (.int .i64 r5) ∧ w3.cell? ⟨w.heap.size + 1, 6, none⟩ = some (.int .i64 r6) ∧ w3.cell? ⟨w.heap.size + 1, 7, none⟩ = some (.int .i64 r7) := by
        have hh := fun i y hi => ho3.cell i _ (cells_prod i y hi)
        rw [unhide HR] at hh
        exact ⟨hh 0 _ rfl, hh 1 _ rfl, hh 2 _ rfl, hh 3 _ rfl, hh 4 _ rfl, hh 5 _ rfl, hh 6 _ rfl, hh 7 _ rfl⟩
      clear ho3 hk3
      go_wp2_with (refine store8 rfl (.tmp 2) (.tmp 54) rfl w.heap.size _ [r0, r1, r2, r3, r4, r5, r6, r7] rfl rfl rfl rfl (unhide HZ3) ?_)
      refine bodyPost_ret (v := .tuple #[.agg (cells8 [r0, r1, r2, r3, r4, r5, r6, r7]), .int .i64 0, .int .i64 0]) (res3 Tryd.results24 _ _ w.heap.size _ rfl rfl ((unhide HZ3).setRow _)) rfl ⟨?_, ?_⟩
      · rw [unhide HR]
      · exact below_setRow (unhide HB3) (Nat.le_refl _) _
end Go.Proofs.YtccnbnfafhpeaaaDoor

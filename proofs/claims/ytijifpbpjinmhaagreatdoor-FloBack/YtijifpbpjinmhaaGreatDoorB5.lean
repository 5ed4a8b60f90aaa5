/- cutDecimal (45) of a decimal text. -/
import Derived.Test.YtijifpbpjinmhaaGreatDoorT3
import Derived.Test.YtijifpbpjinmhaaGreatDoorB3
import Derived.Test.YtijifpbpjinmhaaGreatDoorSt
import Derived.Shelf.Strings.Builder1
import Derived.Shelf.Strings.Builder2
import Derived.Shelf.Strings.Trim
import Derived.Shelf.Small.Utf8
import Derived.Shelf.Small.Bits
import Derived.Shelf.Small.Strs
import Derived.Shelf.Small.Wraps
import Derived.Shelf.Strings.BuilderF
import Derived.Shelf.Strings.BuilderK
import Derived.Shelf.Strings.Builder2Cap
import Derived.Shelf.Strconv.Atoi
import Derived.Shelf.Strconv.Itoa0
import Derived.Shelf.Strconv.Itoa1
import Derived.Shelf.LaysM
import Derived.Shelf.Strconv.Itoa2
import Derived.Shelf.Strconv.Itoa3
import Derived.Shelf.Strconv.AtoiErrFast
import Derived.Shelf.Strconv.ParseIntEmpty
import Derived.Shelf.Strconv.AtoiFail
import Derived.Shelf.Strconv.Clone
import Derived.Shelf.Strconv.SyntaxError
import Derived.Shelf.LaysC
import Derived.Shelf.Strconv.ToError
import Derived.Shelf.Strconv.Lower
import Derived.Shelf.Strconv.ParseUint10
import Derived.Shelf.Strconv.ParseUint10Empty
import Derived.Shelf.Strconv.ParseUint10Any
import Derived.Shelf.Strconv.ParseInt10
import Derived.Shelf.Strconv.AtoiLong
import Derived.Shelf.Strconv.AtoiInnerAll
import Derived.Shelf.Strconv.RangeError
import Derived.Shelf.Strconv.ToErrorRange
import Derived.Shelf.Strconv.AtoiAll
import Derived.Shelf.Strconv.ErrVarAll
import Derived.Shelf.Strconv.ParseUintEmpty
import Derived.Shelf.Strconv.ParseUint10b64
import Derived.Shelf.Strconv.ParseUint10b32
import Derived.Shelf.Strconv.ParseUint10b16
import Derived.Shelf.Strconv.ParseUint10b8
import Derived.Ground.MpProg
import Derived.Shelf.Pu.ParseUintPublic10
import Derived.Shelf.Pu.ErrVarParseUint
import Derived.Shelf.Strings.Search1
import Derived.Shelf.Strings.Search2
import Derived.Shelf.Strings.Search3
import Derived.Shelf.Strings.Cut
import Derived.Shelf.Strings.Shaped
import Derived.Shelf.Strconv.AppendUint10
import Derived.Shelf.Strconv.AppendInt10
import Derived.Shelf.Strings.Prefix
import Derived.Shelf.Unicode.Decode
import Derived.Shelf.Strings.Runes
import Derived.Shelf.Strings.IndexAny
import Derived.Shelf.Strings.AsciiSet
import Derived.Shelf.Strings.IndexAnyAll
import Derived.Shelf.Bits.Mul64
import Derived.Shelf.Strings.Repeat
import Derived.Shelf.Unicode.DecodeSlow
import Derived.Shelf.Unicode.DecodeAny
import Derived.Ground.Names2Prog
import Derived.Shelf.Slices.SearchI
import Derived.Test.YtijifpbpjinmhaaGreatDoorProg
import Derived.Test.YtijifpbpjinmhaaGreatDoorAdd
import Derived.Shelf.Vars
set_option maxHeartbeats 2000000
set_option maxRecDepth 100000
namespace Go.Proofs.YtijifpbpjinmhaaGreatDoor
open Go.RowKit Go.Maps Go.ChangeMaps Go.WideMaps
/-- The three words and their floats. -/
def IsWord (l : List UInt8) (b : Nat) : Prop := (l = [78, 97, 78] ∧ b = 9221120237041090561) ∨ (l = [43, 73, 110, 102] ∧ b = 9218868437227405312) ∨ (l = [45, 73, 110, 102] ∧ b = 18442240474082181120)
theorem IsWord.has {l : List UInt8} {b : Nat} (h : IsWord l b) : Maps.has (wD 3) (.string l) = true := by
  rcases h with ⟨rfl, _⟩ | ⟨rfl, _⟩ | ⟨rfl, _⟩ <;> kernel_rfl
theorem wD_key (kl : Lit) (zd : DataW Unit) (h : Maps.has (wD 3) kl = true) : ∃ (l : List UInt8) (b : Nat), kl = .string l ∧ IsWord l b ∧ (wD 3).atKey kl zd = .lit (.int .i64 (b : Int)) := by
  by_cases e2 : kl = .string [45, 73, 110, 102]
  · subst e2; exact ⟨_, 18442240474082181120, rfl, Or.inr (Or.inr ⟨rfl, rfl⟩), by kernel_rfl⟩
  · rw [show wD 3 = (wD 2).put (.string [45, 73, 110, 102]) (.lit (.int .i64 18442240474082181120)) from rfl, Maps.has_put_other e2] at h
    by_cases e1 : kl = .string [43, 73, 110, 102]
    · subst e1; exact ⟨_, 9218868437227405312, rfl, Or.inr (Or.inl ⟨rfl, rfl⟩), by kernel_rfl⟩
    · rw [show wD 2 = (wD 1).put (.string [43, 73, 110, 102]) (.lit (.int .i64 9218868437227405312)) from rfl, Maps.has_put_other e1] at h
      by_cases e0 : kl = .string [78, 97, 78]
      · subst e0; exact ⟨_, 9221120237041090561, rfl, Or.inl ⟨rfl, rfl⟩, by kernel_rfl⟩
      · rw [show wD 1 = (wD 0).put (.string [78, 97, 78]) (.lit (.int .i64 9221120237041090561)) from rfl, Maps.has_put_other e0] at h
        exact absurd h (by simp [wD, wD0, Maps.has])
theorem word_key {kl : Lit} {v : Value} {y : DataW Unit × List MemPlace} (h1 : Maps.has (wD 3) kl = true) (h2 : wR v = some y) (h3 : ∀ zd, (wD 3).atKey kl zd = y.1) : ∃ (l : List UInt8) (b : Nat), kl = .string l ∧ v = .float .f64 b ∧ IsWord l b := by
  obtain ⟨d, ps⟩ := y
  obtain ⟨l, b, rfl, hw, hd⟩ := wD_key kl (.map []) h1
  have e := h3 (.map [])
  rw [hd] at e
  subst e
  obtain ⟨c, rfl, hc⟩ := wR_inv h2
  exact ⟨l, c, rfl, rfl, by rw [show c = b by omega]; exact hw⟩
theorem key_text {x : ByteArray} {l : List UInt8} (h : keyOf Tryz.prog 9 (.string x) = some (.string l)) : x = ⟨l.toArray⟩ := by
  have hu := Tryz.underlying9
  simp [keyOf, hu, mapKey] at h
  obtain ⟨_, h⟩ := h
  rw [← h]
theorem text_word (f tv : Nat) (tl : List UInt8) (w : World) (htl : IsWord tl tv)
    (HOW : ∀ (l : List UInt8) (b : Nat), IsWord l b → ∀ W : World, Calls Tryz.prog 20 #[.float .f64 f, .float .f64 b] W fun e w' => ∃ q : Int, ((q = 0 ∧ l = tl) ∨ (q ≠ 0 ∧ l ≠ tl)) ∧ e = .returned (.int .i64 q) ∧ w' = W) :
    Calls Tryz.prog 18 #[.float .f64 f] w fun r w' => r = .returned (.string ⟨tl.toArray⟩) ∧ Below w.heap.size w w' := by
  obtain ⟨g, hg⟩ : ∃ g, g = w.heap.size := ⟨_, rfl⟩
  have HG0 : Hid (g = w.heap.size) := hg
  clear hg
  have HW : Hid (Calls Tryz.prog 43 #[] w fun r w' => r = .returned (.map (some g)) ∧ w'.ownsMap Tryz.prog 9 wR g 3 (wD 3) ∧ Below w.heap.size w w') := by rw [unhide HG0]; exact words_any w
  have GOW := hide HOW
  have HTL := hide htl
  clear HOW htl
  go_enter Tryz.func18, Tryz.ntmps18
  go_wp2_with (first
    | (go_at_call 43; go_must (refine (unhide HW).mono ?_; rintro e w1 ⟨rfl, hown, hb⟩; have HO := hide hown; have HB := hide hb; clear hown hb))
    | (at_range; refine wpList_range_own _ rfl _ 70 rfl 9 24 (string_keyed Tryz.underlying9) underM wR g 3 (wD 3) rfl (unhide HO) ?_; intro w3 hrg hgr hsz; go_frame))
  have HRG : Hid (w3.ranges Tryz.prog 9 wR g w1.heap.size 3 (wD 3) (Maps.has (wD 3)) (Maps.size (wD 3))) := hrg
  have HB3 : Hid (Below w.heap.size w w3 ∧ w1.heap.size < w3.heap.size) := ⟨(unhide HB).grown hgr (unhide HB).size (fun j hj => by cases hj), by omega⟩
  clear hrg hgr hsz
  go_loopw [3, 4] (fun _ _ wr => ∃ (left : Lit → Bool) (cnt : Nat), Hid (wr.ranges Tryz.prog 9 wR g w1.heap.size 3 (wD 3) left cnt) ∧ Hid (left (.string tl) = true) ∧ Hid (∀ kl, left kl = true → Maps.has (wD 3) kl = true) ∧ Hid (Below w.heap.size w wr)) (fun _ _ wr => wr.rangeLeft g w1.heap.size)
  case atStart => exact ⟨_, _, HRG, (unhide HTL).has, fun _ h => h, (unhide HB3).1⟩
  case round =>
    obtain ⟨left, cnt, HG, HT, HL, HBr⟩ := hrel
    go_wp2_with (at_next; go_loud (refine wpList_next_ranges _ rfl _ rfl 9 (string_keyed Tryz.underlying9) wR (fun x : ByteArray => .string x) (fun v : Value => v) (fun key kl h => keyOf_string_inv Tryz.underlying9 h) (fun v y _ => ⟨v, rfl⟩) g w1.heap.size 3 (wD 3) left cnt rfl (unhide HG) ?_ ?_))
    · intro _ hl0
      exact absurd (unhide HT) (by rw [hl0]; decide)
    · intro x v kl d ps w4 cnt4 hkx hlx hv hat hrg4 hlt hg4 hs4 hen
      obtain ⟨l, b, rfl, rfl, hw3⟩ := word_key (y := (d, ps)) ((unhide HL) kl hlx) hv hat
      have HB4 : Hid (Below w.heap.size w w4) := (unhide HBr).grown hg4 (unhide HBr).size (fun j hj => by cases hj; exact (unhide HB).size)
      have HX : Hid (x = ⟨l.toArray⟩) := key_text hkx
      have HT1 : Hid (l ≠ tl → (left (.string tl) && !(Lit.string tl).sameKey (.string l)) = true) := fun hne => by rw [unhide HT]; simp [Lit.sameKey, Ne.symm hne]
      have HORD := hide (unhide GOW l b hw3)
      have HG4 := hide hrg4
      have HLT : Hid (cnt4 < cnt) := hlt
      have HL1 : Hid (∀ z, (left z && !z.sameKey (.string l)) = true → Maps.has (wD 3) z = true) := fun z h => (unhide HL) z (by simp at h; exact h.1)
      clear hrg4 hlt hkx hlx hv hat hg4 hs4 hw3
      by_cases hl : l = tl
      · have HO0 : Hid (∀ W, Calls Tryz.prog 20 #[.float .f64 f, .float .f64 b] W fun e w' => e = .returned (.int .i64 0) ∧ w' = W) := fun W => by
          refine (unhide HORD W).mono ?_
          rintro e w' ⟨q, (⟨rfl, _⟩ | ⟨_, h⟩), rfl, rfl⟩
          · exact ⟨rfl, rfl⟩
          · exact absurd hl h
        subst hl
        clear HORD HT1 HL1
        go_wp2_with (go_at_call 20; go_must (refine (unhide HO0 _).mono ?_; rintro e w6 ⟨rfl, hw6⟩; have hw7 := hw6.symm; subst hw7; clear hw6))
        go_ret
        exact ⟨by rw [unhide HX]; rfl, unhide HB4⟩
      · have HO0 : Hid (∀ W, Calls Tryz.prog 20 #[.float .f64 f, .float .f64 b] W fun e w' => ∃ q : Int, q ≠ 0 ∧ e = .returned (.int .i64 q) ∧ w' = W) := fun W => by
          refine (unhide HORD W).mono ?_
          rintro e w' ⟨q, (⟨_, h⟩ | ⟨h, _⟩), rfl, rfl⟩
          · exact absurd h hl
          · exact ⟨q, h, rfl, rfl⟩
        have HT2 := hide (unhide HT1 hl)
        clear HORD HT1 hl
        go_wp2_with (go_at_call 20; go_must (refine (unhide HO0 _).mono ?_; rintro e w6 ⟨q, hq, rfl, hw6⟩; have hw7 := hw6.symm; subst hw7; clear hw6))
        go_roundw
        case rel => exact ⟨_, _, HG4, HT2, HL1, HB4⟩
        case measure => rw [(unhide HG4).left_eq, (unhide HG).left_eq]; exact unhide HLT
end Go.Proofs.YtijifpbpjinmhaaGreatDoor
namespace Go.Proofs.YtijifpbpjinmhaaGreatDoor
open Go.RowKit
theorem cutDec_yes (s s1 x ah be tr : ByteArray) (f : Bool) (at_ ex : Int) (w : World) (hat : 0 ≤ at_) (hat2 : at_ < (s.size : Int)) (hsz : (s.size : Int) ≤ 2000) (hs1 : s.extract 0 at_.toNat = s1) (hx : s.extract (at_ + 1).toNat s.size = x) (hex1 : -100000 ≤ ex) (hex2 : ex ≤ 100000) (hbe : (be.size : Int) ≤ 2000) (hab : ah.size + be.size ≤ 4000)
    (HI : ∀ W : World, Calls Tryz.prog 95 #[.string s, .string ⟨#[101, 69]⟩] W fun r w' => r = .returned (.int .i64 at_) ∧ Below W.heap.size W w')
    (HE : ∀ W : World, Below w.heap.size w W → Calls Tryz.prog 96 #[.string x] W fun r w' => r = .returned (.int .i64 ex) ∧ Below W.heap.size W w')
    (HC : ∀ W : World, Below w.heap.size w W → Calls Tryz.prog 97 #[.string s1, .string ⟨#[46]⟩] W fun r w' => r = .returned (.tuple #[.string ah, .string be, .bool f]) ∧ Below W.heap.size W w')
    (HT : ∀ W : World, Calls Tryz.prog 98 #[.string (ah ++ be), .string ⟨#[48]⟩] W fun r w' => r = .returned (.string tr) ∧ w' = W) :
    Calls Tryz.prog 45 #[.string s] w fun r w' => r = .returned (.tuple #[.string tr, .int .i64 (ex - (be.size : Int))]) ∧ Below w.heap.size w w' := by
  have GI := hide (HI w)
  have GC := hide HC
  have GE := hide HE
  have h3 : at_ ≤ (s.size : Int) := by omega
  have h4 : 0 ≤ at_ + 1 := by omega
  have h5 : at_ + 1 ≤ (s.size : Int) := by omega
  have h6 : IntKind.i64.wrap (at_ + 1) = at_ + 1 := by rw [IntKind.wrap_i64]; omega
  have h7 : at_ ≤ 9223372036854775806 := by omega
  have h8 : at_ + 1 ≤ 9223372036854775806 := by omega
  clear HE
  have GT := hide HT
  have h1 : (9223372036854775807 < ah.size + be.size) = False := eq_false (by omega)
  have h2 : IntKind.i64.wrap (ex - (be.size : Int)) = ex - (be.size : Int) := by rw [IntKind.wrap_i64]; omega
  clear HI HC HT hab
  subst hs1 hx
  go_enter Tryz.func45, Tryz.ntmps45
  go_upto_region 4 with (go_at_call 95; go_must (refine (unhide GI).mono ?_; rintro r w1 ⟨rfl, hb⟩; have HB1 := hide hb; clear hb))
  refine region_reads 8 (fun _ => True) (fun _ => True) 10 rfl (by kernel_rfl) ?_
  have HB2 : Hid (Below w.heap.size w w1.drew) := (unhide HB1).trans (((Below.refl _ _).drew).mono (unhide HB1).size)
  clear HB1
  generalize w1.drew = X0 at *
  refine wpR_take7 (i := 0) (oi := _) (v := .string s) rfl (by kernel_rfl) (by kernel_rfl) (by kernel_rfl) (by kernel_rfl) (fun _ _ _ h => h) (Or.inl ⟨by rfl, ?_⟩) ⟨trivial, trivial⟩ ?_
  · intro W' hW
    go_simp
  refine wpR_take7 (i := 1) (oi := _) (v := .int .i64 at_) rfl (by kernel_rfl) (by kernel_rfl) (by kernel_rfl) (by kernel_rfl) (fun _ _ _ h => h) (Or.inl ⟨by rfl, ?_⟩) ⟨trivial, trivial⟩ ?_
  · intro W' hW
    go_simp
  refine wpR_take7 (i := 2) (oi := _) (v := .string (s.extract 0 at_.toNat)) rfl (by kernel_rfl) (by kernel_rfl) (by kernel_rfl) (by kernel_rfl) (fun _ _ _ h => h) (Or.inl ⟨by rfl, ?_⟩) ⟨trivial, trivial⟩ ?_
  · intro W' hW
    go_simp
  refine wpR_take7 (i := 3) (oi := _) (v := .string s) rfl (by kernel_rfl) (by kernel_rfl) (by kernel_rfl) (by kernel_rfl) (fun _ _ _ h => h) (Or.inl ⟨by rfl, ?_⟩) ⟨trivial, trivial⟩ ?_
  · intro W' hW
    go_simp
  refine wpR_take7 (i := 4) (oi := _) (v := .int .i64 at_) rfl (by kernel_rfl) (by kernel_rfl) (by kernel_rfl) (by kernel_rfl) (fun _ _ _ h => h) (Or.inl ⟨by rfl, ?_⟩) ⟨trivial, trivial⟩ ?_
  · intro W' hW
    go_simp
  refine wpR_take7 (i := 5) (oi := _) (v := .int .i64 (at_ + 1)) rfl (by kernel_rfl) (by kernel_rfl) (by kernel_rfl) (by kernel_rfl) (fun _ _ _ h => h) (Or.inl ⟨by rfl, ?_⟩) ⟨trivial, trivial⟩ ?_
  · intro W' hW
    go_simp
  refine wpR_take7 (i := 6) (oi := _) (v := .string (s.extract (at_ + 1).toNat s.size)) rfl (by kernel_rfl) (by kernel_rfl) (by kernel_rfl) (by kernel_rfl) (fun _ _ _ h => h) (Or.inl ⟨by rfl, ?_⟩) ⟨trivial, trivial⟩ ?_
  · intro W' hW
    go_simp
  refine wpR_op (i := 7) (o := _) (by kernel_rfl) rfl rfl (fun K hK => ?_)
  go_simp
  refine (unhide GE _ (unhide HB2)).mono ?_
  rintro r w3 ⟨rfl, hb⟩
  have HB3 := hide ((unhide HB2).trans (hb.mono (unhide HB2).size))
  clear hb HB2
  refine hK _ _ ⟨trivial, trivial⟩ ?_
  clear hK K
  refine wpR_late (i := 8) (o := _) (by kernel_rfl) rfl rfl (by kernel_rfl) (fun K hK => ?_)
  go_simp
  refine hK _ _ trivial ?_
  clear hK K
  refine wpR_late (i := 9) (o := _) (by kernel_rfl) rfl rfl (by kernel_rfl) (fun K hK => ?_)
  go_simp
  refine hK _ _ trivial ?_
  clear hK K
  refine wpR_done (by kernel_rfl) ?_
  go_wp2_with (first
    | (have hchk := HB3; clear hchk; go_at_call 97; go_must (refine (unhide GC _ (unhide HB3)).mono ?_; rintro r w4 ⟨rfl, hb⟩; have HB4 := hide ((unhide HB3).trans (hb.mono (unhide HB3).size)); clear hb HB3))
    | (go_at_call 98; go_must (refine (unhide GT _).mono ?_; rintro r w5 ⟨rfl, hw⟩; have hw2 := hw.symm; subst hw2; clear hw)))
  go_ret2
  exact ⟨rfl, unhide HB4⟩
theorem exp_walk (s dg : ByteArray) (n : Nat) (ng : Bool) (w : World) (h0 : (0 : Int) < (s.size : Int)) (hlen : ¬ (5 : Int) < (dg.size : Int)) (hn : n ≤ 99999)
    (h45 : ∀ h : 0 < s.size, ((s[0].toNat : Int) == 45) = ng)
    (HT : ∀ W : World, Calls Tryz.prog 98 #[.string s, .string ⟨#[43, 45, 48]⟩] W fun r w' => r = .returned (.string dg) ∧ Below W.heap.size W w')
    (HA : ∀ W : World, Calls Tryz.prog 146 #[.string dg] W fun r w' => r = .returned (.tuple #[.int .i64 (n : Int), .nilIface]) ∧ Below W.heap.size W w') :
    Calls Tryz.prog 96 #[.string s] w fun r w' => r = .returned (.int .i64 (if ng then -(n : Int) else (n : Int))) ∧ Below w.heap.size w w' := by
  have h45' := h45 (by omega)
  have GT := hide (HT w)
  have GA := hide HA
  have h2 : IntKind.i64.wrap (-(n : Int)) = -(n : Int) := by rw [IntKind.wrap_i64]; omega
  clear HT HA h45
  cases ng
  all_goals
    go_enter Tryz.func96, Tryz.ntmps96
    go_wp2_with (first
      | (go_at_call 98; go_must (refine (unhide GT).mono ?_; rintro r w1 ⟨rfl, hb⟩; have HB1 := hide hb; clear hb))
      | (have hchk := HB1; clear hchk; go_at_call 146; go_must (refine (unhide GA _).mono ?_; rintro r w2 ⟨rfl, hb⟩; have HB2 := hide ((unhide HB1).trans (hb.mono (unhide HB1).size)); clear hb HB1)))
    go_ret
    exact ⟨by simp, unhide HB2⟩
end Go.Proofs.YtijifpbpjinmhaaGreatDoor
namespace Go.Proofs
open Go.Shelf
def Tryz.q4lays227_ren : Go.Shelf.Ren := ⟨fun | 227 => 144 | n => n, fun | 9 => 9 | 116 => 160 | 4 => 4 | 0 => 0 | 3 => 3 | 5 => 5 | n => n, fun | n => n⟩
theorem Tryz.q4lays227 : Go.Proofs.Lays.n227 Tryz.prog Tryz.q4lays227_ren := {
  mixed := by kernel_rfl
  f227 := Tryz.func144.trans (congrArg some (by kernel_rfl))
  t0 := Tryz.underlying0
  a0 := Tryz.isAgg0
  z0 := Tryz.sizeOf0
  v0 := Tryz.zeroValue0
  t3 := Tryz.underlying3
  a3 := Tryz.isAgg3
  z3 := Tryz.sizeOf3
  v3 := Tryz.zeroValue3
  t4 := Tryz.underlying4
  a4 := Tryz.isAgg4
  z4 := Tryz.sizeOf4
  v4 := Tryz.zeroValue4
  t5 := Tryz.underlying5
  a5 := Tryz.isAgg5
  z5 := Tryz.sizeOf5
  v5 := Tryz.zeroValue5
  t9 := Tryz.underlying9
  a9 := Tryz.isAgg9
  z9 := Tryz.sizeOf9
  v9 := Tryz.zeroValue9
  t116 := Tryz.underlying160
  a116 := Tryz.isAgg160
  z116 := Tryz.sizeOf160 }
open Go.RowKit Go.Lib in
theorem Tryz.strings_makeASCIISet (hv116 : ∀ w, (zeroValue 160).run Tryz.prog w = .ok (.agg (Array.replicate 256 (.bool false))) w) (chars : ByteArray) (w : World) (hs : chars.size < 4294967281) (hascii : ∀ (j : Nat) b, chars.data.toList[j]? = some b → b.toNat < 128) :
    Calls Tryz.prog 144 #[.string chars] w fun e w' => e = .returned (.tuple #[.agg (Lib.setCells chars.data.toList), .bool true]) ∧ w' = w.alloc (.cells (Lib.setCells chars.data.toList) 160) := Any.strings_makeASCIISet Tryz.q4lays227 hv116 (by kernel_rfl) chars w hs hascii
def Tryz.q4lays228_ren : Go.Shelf.Ren := ⟨fun | 228 => 145 | n => n, fun | 124 => 170 | 5 => 5 | 4 => 4 | 0 => 0 | 116 => 160 | n => n, fun | n => n⟩
theorem Tryz.q4lays228 : Go.Proofs.Lays.n228 Tryz.prog Tryz.q4lays228_ren := {
  mixed := by kernel_rfl
  f228 := Tryz.func145.trans (congrArg some (by kernel_rfl))
  t0 := Tryz.underlying0
  a0 := Tryz.isAgg0
  z0 := Tryz.sizeOf0
  v0 := Tryz.zeroValue0
  t4 := Tryz.underlying4
  a4 := Tryz.isAgg4
  z4 := Tryz.sizeOf4
  v4 := Tryz.zeroValue4
  t5 := Tryz.underlying5
  a5 := Tryz.isAgg5
  z5 := Tryz.sizeOf5
  v5 := Tryz.zeroValue5
  t116 := Tryz.underlying160
  a116 := Tryz.isAgg160
  z116 := Tryz.sizeOf160
  t124 := Tryz.underlying170
  a124 := Tryz.isAgg170
  z124 := Tryz.sizeOf170
  v124 := Tryz.zeroValue170 }
open Go.RowKit Go.Lib in
theorem Tryz.asciiSet_contains (b : Nat) (x : UInt8) (v : Bool) (w : World) (hc : w.cell? ⟨b, x.toNat, none⟩ = some (.bool v)) :
    Calls Tryz.prog 145 #[.pointer (some ⟨b, 0, none⟩), .int .u8 x.toNat] w fun e w' => e = .returned (.bool v) ∧ w' = w := Any.asciiSet_contains Tryz.q4lays228 b x v w hc
end Go.Proofs
namespace Go.Proofs.YtijifpbpjinmhaaGreatDoor
open Go.RowKit
theorem head_tail (s : ByteArray) (h : 0 < s.size) : s.data.toList = s[0] :: (s.extract 1 s.size).data.toList := by
  obtain ⟨⟨l⟩⟩ := s
  cases l with
  | nil => simp [ByteArray.size] at h
  | cons c t =>
    show c :: t = _
    have e1 : (⟨⟨c :: t⟩⟩ : ByteArray)[0] = c := rfl
    rw [e1]
    congr 1
    simp [ByteArray.extract, ByteArray.copySlice, ByteArray.size]
theorem drop_stop (f : UInt8 → Bool) (s : ByteArray) (h : 0 < s.size) (hf : f s[0] = false) : s.data.toList.dropWhile f = s.data.toList := by
  rw [head_tail s h, List.dropWhile_cons_of_neg (by simp [hf])]
theorem drop_go (f : UInt8 → Bool) (s : ByteArray) (h : 0 < s.size) (hf : f s[0] = true) : s.data.toList.dropWhile f = (s.extract 1 s.size).data.toList.dropWhile f := by
  rw [head_tail s h, List.dropWhile_cons_of_pos hf]
theorem trimASCII_any (s : ByteArray) (b : Nat) (f : UInt8 → Bool) (w : World) (hs : s.size ≤ 100000) (hc : ∀ x : UInt8, w.cell? ⟨b, x.toNat, none⟩ = some (.bool (f x))) :
    Calls Tryz.prog 149 #[.string s, .pointer (some ⟨b, 0, none⟩)] w fun r w' => r = .returned (.string ⟨(s.data.toList.dropWhile f).toArray⟩) ∧ w' = w := by
  have HC := hide hc
  have HS := hide hs
  clear hc hs
  go_enter Tryz.func149, Tryz.ntmps149
  go_wp2_with fail
  go_loopw [0] (fun v wr => ∃ t : ByteArray, v = .string t ∧ Hid (t.data.toList.dropWhile f = s.data.toList.dropWhile f) ∧ wr = w ∧ t.size ≤ 100000) (fun v _ => match v with | .string t => t.size | _ => 0)
  case atStart => exact ⟨s, rfl, rfl, rfl, unhide HS⟩
  case round =>
    obtain ⟨t, rfl, HT, rfl, ht⟩ := hrel
    by_cases h0 : 0 < t.size
    · have h0I : (0 : Int) < (t.size : Int) := by omega
      have h1I : (1 : Int) ≤ (t.size : Int) := by omega
      have GC := hide (Tryz.asciiSet_contains b t[0] (f t[0]) _ (unhide HC t[0]))
      cases hf : f t[0]
      · rw [hf] at GC
        go_wp2_with (go_at_call 145; go_must (refine (unhide GC).mono ?_; rintro r w2 ⟨rfl, hw⟩; have hw2 := hw.symm; subst hw2; clear hw))
        go_ret
        have e : (⟨(List.dropWhile f s.data.toList).toArray⟩ : ByteArray) = t := by rw [← unhide HT, drop_stop f t h0 hf]
        exact ⟨by rw [e]; rfl, rfl⟩
      · rw [hf] at GC
        go_wp2_with (go_at_call 145; go_must (refine (unhide GC).mono ?_; rintro r w2 ⟨rfl, hw⟩; have hw2 := hw.symm; subst hw2; clear hw))
        go_roundw
        case rel => exact ⟨t.extract 1 t.size, rfl, (drop_go f t h0 hf).symm.trans (unhide HT), trivial, by rw [ByteArray.size_extract]; omega⟩
        case measure => show (t.extract 1 t.size).size < t.size; rw [ByteArray.size_extract]; omega
    · have h0I : ¬ (0 : Int) < (t.size : Int) := by omega
      go_wp2_with fail
      go_ret
      refine ⟨?_, rfl⟩
      have e : t.data.toList = [] := by
        have : t.data.toList.length = t.size := by simp
        exact List.eq_nil_of_length_eq_zero (by omega)
      have e2 : t = ⟨#[]⟩ := by
        obtain ⟨⟨l⟩⟩ := t
        simp at e
        subst e; rfl
      rw [← unhide HT, e, e2]
      rfl
theorem zero160 : ∀ w, (zeroValue 160).run Tryz.prog w = .ok (.agg (Array.replicate 256 (.bool false))) w := fun w => by kernel_rfl
theorem info160 : (Tryz.prog.info? 160).map (·.size) = some 256 := by kernel_rfl
def setF (c : UInt8) : Bool := c == 43 || c == 45 || c == 48
def boolAt (v : Option Value) (b : Bool) : Bool := match v with
  | some (.bool c) => c == b
  | _ => false
theorem boolAt_is {v : Option Value} {b : Bool} (h : boolAt v b = true) : v = some (.bool b) := by
  unfold boolAt at h
  split at h
  · rw [beq_iff_eq] at h; rw [h]
  · cases h
theorem set_atB : (List.range 256).all (fun n => boolAt ((Lib.setCells [43, 45, 48])[n]?) (setF (UInt8.ofNat n))) = true := by decide +kernel
theorem set_at (n : Fin 256) : (Lib.setCells [43, 45, 48])[n.val]? = some (.bool (setF (UInt8.ofNat n.val))) := boolAt_is (List.all_eq_true.1 set_atB n.val (List.mem_range.2 n.isLt))
theorem set_own (w : World) : OwnU (((w.alloc (.cells (Lib.setCells [43, 45, 48]) 160)).alloc (.cells Tryz.zeroCells160 160)).setRow (w.heap.size + 1) (Lib.setCells [43, 45, 48])) (w.heap.size + 1) 160 (Lib.setCells [43, 45, 48]) := by
  have h := OwnU.new (w.alloc (.cells (Lib.setCells [43, 45, 48]) 160)) Tryz.zeroCells160 160
  rw [World.size_alloc] at h
  exact h.setRow _
theorem set_cell (w : World) (x : UInt8) : (((w.alloc (.cells (Lib.setCells [43, 45, 48]) 160)).alloc (.cells Tryz.zeroCells160 160)).setRow (w.heap.size + 1) (Lib.setCells [43, 45, 48])).cell? ⟨w.heap.size + 1, x.toNat, none⟩ = some (.bool (setF x)) := by
  have h := set_at ⟨x.toNat, x.toNat_lt⟩
  simp only [UInt8.ofNat_toNat] at h
  exact (set_own w).ub.c x.toNat _ h
theorem set_below (w : World) : Below w.heap.size w (((w.alloc (.cells (Lib.setCells [43, 45, 48]) 160)).alloc (.cells Tryz.zeroCells160 160)).setRow (w.heap.size + 1) (Lib.setCells [43, 45, 48])) := by
  have h1 : Below w.heap.size w ((w.alloc (.cells (Lib.setCells [43, 45, 48]) 160)).alloc (.cells Tryz.zeroCells160 160)) := ((Below.refl _ _).alloc (Nat.le_refl _) _).alloc (by simp) _
  exact below_setRow h1 (by omega) _
theorem trim_set (s : ByteArray) (w : World) (hs : s.size ≤ 100000) (he : s.toList.isEmpty = false) :
    Calls Tryz.prog 98 #[.string s, .string ⟨#[43, 45, 48]⟩] w fun r w' => r = .returned (.string ⟨(s.data.toList.dropWhile setF).toArray⟩) ∧ Below w.heap.size w w' := by
  have GM := hide (Tryz.strings_makeASCIISet zero160 ⟨#[43, 45, 48]⟩ w (by decide) (by intro j b h; have := List.mem_of_getElem? h; simp at this; rcases this with rfl | rfl | rfl <;> decide))
  go_enter Tryz.func98, Tryz.ntmps98
  go_wp2_with (first
    | (refine storeT 160 256 info160 rfl (.tmp 5) (.tmp 29) rfl (w.heap.size + 1) Tryz.zeroCells160 (Lib.setCells [43, 45, 48]) rfl (by kernel_rfl) (by kernel_rfl) rfl (by have := OwnU.new (w.alloc (.cells (Lib.setCells [43, 45, 48]) 160)) Tryz.zeroCells160 160; simpa [World.size_alloc] using this) (by kernel_rfl) ?_)
    | (go_at_call 149; go_must (refine (trimASCII_any s (w.heap.size + 1) setF _ hs (fun x => set_cell w x)).mono ?_; rintro r w2 ⟨rfl, rfl⟩))
    | (go_at_call 144; go_must (refine (unhide GM).mono ?_; rintro r w1 ⟨rfl, rfl⟩)))
  go_ret
  exact ⟨rfl, set_below w⟩
theorem any_none (l cs : List UInt8) (h : ∀ x ∈ l, cs.contains x = false) : Lib.indexAny l cs = -1 := by
  induction l with
  | nil => rfl
  | cons b l ih =>
    unfold Lib.indexAny
    rw [h b (List.mem_cons_self ..), ih fun x hx => h x (List.mem_cons_of_mem _ hx)]
    rfl
theorem any_hit (p r cs : List UInt8) (c : UInt8) (hc : cs.contains c = true) (h : ∀ x ∈ p, cs.contains x = false) : Lib.indexAny (p ++ c :: r) cs = (p.length : Int) := by
  induction p with
  | nil => rw [List.nil_append]; unfold Lib.indexAny; rw [if_pos hc]; rfl
  | cons b l ih =>
    rw [List.cons_append]
    unfold Lib.indexAny
    rw [h b (List.mem_cons_self ..), ih fun x hx => h x (List.mem_cons_of_mem _ hx)]
    have : ((l.length : Int) == -1) = false := by rw [beq_eq_false_iff_ne]; omega
    rw [this]
    simp
theorem cut_dot (p r : List UInt8) (h : ∀ x ∈ p, x ≠ 46) : Lib.cut (p ++ 46 :: r) [46] = (p, r, true) := by
  unfold Lib.cut
  rw [Lib.index_one, indexByte_hit p r 46 h, if_pos (by omega)]
  simp
theorem cut_nodot (l : List UInt8) (h : ∀ x ∈ l, x ≠ 46) : Lib.cut l [46] = (l, [], false) := by
  unfold Lib.cut
  rw [Lib.index_one, indexByte_none l 46 h, if_neg (by decide)]
theorem exp_table : (List.range 999).all (fun m => m == 0 || (decide ((Lib.decDigits m).length ≤ 3) && !(Lib.decDigits m).isEmpty && decide ((Lib.decDigits m).dropWhile setF = Lib.decDigits m) && decide (Lib.atoi (Lib.decDigits m) = some (m : Int)))) = true := by decide +kernel
theorem exp_facts (m : Nat) (h1 : 1 ≤ m) (h2 : m ≤ 998) : (Lib.decDigits m).length ≤ 3 ∧ (Lib.decDigits m).dropWhile setF = Lib.decDigits m ∧ Lib.atoi (Lib.decDigits m) = some (m : Int) := by
  have := List.all_eq_true.1 exp_table m (List.mem_range.2 (by omega))
  have e : (m == 0) = false := by rw [beq_eq_false_iff_ne]; omega
  rw [e] at this
  simp only [Bool.false_or, Bool.and_eq_true, decide_eq_true_eq] at this
  exact ⟨this.1.1.1, this.1.2, this.2⟩
/-- An exponent's text. -/
theorem exp_tx (m : Nat) (dn : Bool) (h1 : 1 ≤ m) (h2 : m ≤ 998) (w : World) :
    Calls Tryz.prog 96 #[.string (⟨#[if dn then 45 else 43]⟩ ++ tx m)] w fun r w' => r = .returned (.int .i64 (if dn then -(m : Int) else (m : Int))) ∧ Below w.heap.size w w' := by
  obtain ⟨f1, f2, f3⟩ := exp_facts m h1 h2
  have hl : (tx m).data.toList = Lib.decDigits m := by simp [tx]
  have hz : (tx m).size = (Lib.decDigits m).length := by rw [← list_len, hl]
  have hs : (⟨#[if dn then 45 else 43]⟩ ++ tx m : ByteArray).size = 1 + (tx m).size := by rw [ByteArray.size_append, size_one]
  have hsl : (⟨#[if dn then 45 else 43]⟩ ++ tx m : ByteArray).data.toList = (if dn then 45 else 43) :: Lib.decDigits m := by rw [← hl]; simp [ByteArray.data_append]
  refine exp_walk _ (tx m) m dn w (by omega) (by omega) (by omega) ?_ ?_ ?_
  · intro h
    have e : (⟨#[if dn then 45 else 43]⟩ ++ tx m : ByteArray)[0] = (if dn then 45 else 43) := by simp [ByteArray.getElem_eq_getElem_data, ByteArray.data_append]
    rw [e]; cases dn <;> decide
  · intro W
    have := trim_set (⟨#[if dn then 45 else 43]⟩ ++ tx m) W (by omega) (not_empty_of _ (by omega))
    rw [hsl] at this
    have e : ((if dn then (45 : UInt8) else 43) :: Lib.decDigits m).dropWhile setF = Lib.decDigits m := by
      rw [List.dropWhile_cons, if_pos (by cases dn <;> decide), f2]
    rw [e] at this
    exact this
  · intro W
    refine (Tryz.strconv_Atoi (tx m) m (by omega) (by rw [hl]; exact f3) W).mono ?_
    rintro r w' ⟨rfl, t, rfl⟩
    exact ⟨rfl, Lib.bytesWorld_below W 5 t⟩
/-- The cell that strings.Cut reads. -/
def Cel (w : World) : Prop := ∃ m : Int, ∀ W, Below w.heap.size w W → W.cell? ⟨2, 0, none⟩ = some (.int .i64 m)
theorem Cel.later {w W : World} (h : Cel w) (hb : Below w.heap.size w W) : Cel W := by
  obtain ⟨m, hm⟩ := h
  exact ⟨m, fun V hV => hm V (hb.trans (hV.mono hb.size))⟩
theorem Cel.now {w : World} (h : Cel w) : ∃ m : Int, w.cell? ⟨2, 0, none⟩ = some (.int .i64 m) := by
  obtain ⟨m, hm⟩ := h
  exact ⟨m, hm w (Below.refl _ _)⟩
/-- The digits of a decimal, less its noughts ahead. -/
def trimZ (D : ByteArray) : ByteArray := ⟨(Lib.trimLeftB D.data.toList 48).toArray⟩
end Go.Proofs.YtijifpbpjinmhaaGreatDoor
namespace Go.Proofs.YtijifpbpjinmhaaGreatDoor
open Go.ChangeShapes Go.WideShapes Go.ChangeAt Go.RowKit
theorem cel_of {W : World} (h : W.ShapedOpen Tryz.prog) : Cel W := by
  obtain ⟨m, hm⟩ : ∃ m, W.cell? ⟨2, 0, none⟩ = some (.int .i64 m) := cell_of_shapedOpen_int (t := 3) (zero := #[.int .i64 0]) h (of_decide_eq_true (by kernel_rfl)) (by kernel_rfl) rfl (by kernel_rfl) (by kernel_rfl) Tryz.underlying3
  exact ⟨m, fun V hV => (hV.cell (Lib.lt_of_cell hm)).trans hm⟩
/-- A world for the witness, the tables of utf8 too. -/
noncomputable def laidWorldB (os : Os) : World :=
  let w0 := laidWorld os
  { w0 with heap := putObj (putObj w0.heap 5 (cellsOfData Rows.laid_unicode_utf8_first)) 6 (cellsOfData Rows.laid_unicode_utf8_acceptRanges) }
end Go.Proofs.YtijifpbpjinmhaaGreatDoor
namespace Go.Proofs.YtijifpbpjinmhaaGreatDoor
open Go.RowKit
theorem extract_pre (P R : ByteArray) : (P ++ R).extract 0 P.size = P := by
  apply ByteArray.ext
  simp [ByteArray.data_extract, ByteArray.data_append, Array.extract_append]
theorem extract_all (R : ByteArray) : R.extract 0 R.size = R := by
  apply ByteArray.ext
  simp only [ByteArray.data_extract, ← ByteArray.size_data, Array.extract_size]
def Bh (pt : Bool) (B : ByteArray) : ByteArray := if pt then B else ⟨#[]⟩
theorem dg_ne (A : ByteArray) (hA : Dg A) (x : UInt8) (hx : x ∈ A.data.toList) : x ≠ 46 ∧ [101, 69].contains x = false := by
  have h := hA x hx
  refine ⟨fun e => by rw [e] at h; exact absurd h (by decide), ?_⟩
  rw [Bool.eq_false_iff]
  intro hc
  simp at hc
  rcases hc with e | e <;> (rw [e] at h; exact absurd h (by decide))
theorem bt_list (l : ByteArray) : (⟨l.data.toList.toArray⟩ : ByteArray) = l := by apply ByteArray.ext; simp
/-- Cut of the digits at the point. -/
theorem cut_at_pt (pt : Bool) (A B : ByteArray) (w : World) (hc : Cel w) (hA : Dg A) (hs : A.size ≤ 900 ∧ B.size ≤ 900) :
    Calls Tryz.prog 97 #[.string (A ++ ptt pt B), .string ⟨#[46]⟩] w fun r w' => r = .returned (.tuple #[.string A, .string (Bh pt B), .bool pt]) ∧ Below w.heap.size w w' := by
  obtain ⟨m, hm⟩ := hc.now
  have hsz : (A ++ ptt pt B).size ≤ 1801 := by
    unfold ptt; cases pt <;> simp only [ByteArray.size_append, if_true, if_neg Bool.false_ne_true, size_nil, size_one] <;> omega
  refine (Tryz.strings_Cut (A ++ ptt pt B) ⟨#[46]⟩ m w (by omega) hm).mono ?_
  rintro r w' ⟨rfl, n, rfl⟩
  refine ⟨?_, below_drewN _ _⟩
  have e1 : (⟨#[46]⟩ : ByteArray).data.toList = [46] := rfl
  cases pt with
  | true =>
    have e2 : (A ++ ptt true B).data.toList = A.data.toList ++ 46 :: B.data.toList := by simp [ptt, ByteArray.data_append]
    rw [e1, e2, cut_dot _ _ fun x hx => (dg_ne A hA x hx).1]
    simp only [bt_list]; rfl
  | false =>
    have e2 : (A ++ ptt false B).data.toList = A.data.toList := by simp [ptt, ByteArray.data_append]
    rw [e1, e2, cut_nodot _ fun x hx => (dg_ne A hA x hx).1]
    simp only [bt_list]; rfl
theorem bh_size (pt : Bool) (B : ByteArray) : (Bh pt B).size ≤ B.size := by unfold Bh; cases pt <;> simp [size_nil]
theorem ascii_of (b pt ex dn : Bool) (A B X : ByteArray) (hA : Dg A) (hB : Dg B) (hX : Dg X) (j : Nat) (c : UInt8) (h : (deT b pt ex dn A B X).data.toList[j]? = some c) : c.toNat < 128 := by
  rcases deT_mem b pt ex dn A B X hA hB hX c (List.mem_of_getElem? h) with h | rfl | rfl | rfl | rfl
  · omega
  all_goals decide
theorem ascii_eE (j : Nat) (c : UInt8) (h : (⟨#[101, 69]⟩ : ByteArray).data.toList[j]? = some c) : c.toNat < 128 := by
  have := List.mem_of_getElem? h
  simp at this
  rcases this with rfl | rfl <;> decide
/-- flo.cutDecimal (45) of a decimal text. -/
theorem cut45 (pt ex dn : Bool) (A B : ByteArray) (m : Nat) (w : World) (hc : Cel w) (hA : Dg A) (hB : Dg B) (hm : ex = true → 1 ≤ m ∧ m ≤ 998) (hs : A.size ≤ 900 ∧ B.size ≤ 900) :
    Calls Tryz.prog 45 #[.string (deT false pt ex dn A B (tx m))] w fun r w' => r = .returned (.tuple #[.string (trimZ (A ++ Bh pt B)), .int .i64 ((if ex then (if dn then -(m : Int) else (m : Int)) else 0) - ((Bh pt B).size : Int))]) ∧ Below w.heap.size w w' := by
  have hX : Dg (tx m) := (tx_nat m).1
  have hb := bh_size pt B
  have hpt : (A ++ ptt pt B).data.toList = A.data.toList ++ (if pt then 46 :: B.data.toList else []) := by unfold ptt; cases pt <;> simp [ByteArray.data_append]
  have hno : ∀ x ∈ (A ++ ptt pt B).data.toList, [101, 69].contains x = false := by
    intro x hx
    rw [hpt, List.mem_append] at hx
    rcases hx with hx | hx
    · exact (dg_ne A hA x hx).2
    · cases pt
      · simp at hx
      · rw [if_pos rfl, List.mem_cons] at hx
        rcases hx with rfl | hx
        · decide
        · exact (dg_ne B hB x hx).2
  have HT : ∀ W : World, Calls Tryz.prog 98 #[.string (A ++ Bh pt B), .string ⟨#[48]⟩] W fun r w' => r = .returned (.string (trimZ (A ++ Bh pt B))) ∧ w' = W := fun W => Tryz.strings_TrimLeft_one (A ++ Bh pt B) 48 (by decide) W
  have e1 : (⟨#[101, 69]⟩ : ByteArray).data.toList = [101, 69] := rfl
  cases ex with
  | false =>
    have ht : deT false pt false dn A B (tx m) = A ++ ptt pt B := by
      unfold deT sgn ext
      rw [if_neg Bool.false_ne_true, if_neg Bool.false_ne_true, nil_ba, ba_nil]
    rw [ht]
    have e0 : (if false = true then (if dn then -(m : Int) else (m : Int)) else 0) - ((Bh pt B).size : Int) = -((Bh pt B).size : Int) := by rw [if_neg Bool.false_ne_true]; omega
    rw [e0]
    refine cutDec_no (A ++ ptt pt B) A (Bh pt B) _ pt (-1) w (by decide) (by omega) (by omega) ?_ (fun W hW => cut_at_pt pt A B W (hc.later hW) hA hs) HT
    intro W
    have := Tryz.strings_IndexAny zero160 (deT false pt false dn A B (tx m)) ⟨#[101, 69]⟩ W (by have := deT_size false pt false dn A B ⟨#[]⟩; rw [ht, ← ht]; have e : deT false pt false dn A B (tx m) = deT false pt false dn A B ⟨#[]⟩ := rfl; rw [e]; rw [size_nil] at this; omega) (by decide) (ascii_of false pt false dn A B (tx m) hA hB hX) ascii_eE
    rw [ht, e1, any_none _ _ hno] at this
    exact this
  | true =>
    obtain ⟨m1, m2⟩ := hm rfl
    obtain ⟨f1, _, _⟩ := exp_facts m m1 m2
    have hl : (tx m).data.toList = Lib.decDigits m := by simp [tx]
    have hz : (tx m).size = (Lib.decDigits m).length := by rw [← list_len, hl]
    have hsz := deT_size false pt true dn A B (tx m)
    have ht : deT false pt true dn A B (tx m) = (A ++ ptt pt B) ++ (⟨#[101]⟩ ++ (⟨#[if dn then 45 else 43]⟩ ++ tx m)) := by
      unfold deT sgn ext
      rw [if_neg Bool.false_ne_true, if_pos rfl, nil_ba]
      simp only [ByteArray.append_assoc]
    have hlist : (deT false pt true dn A B (tx m)).data.toList = (A ++ ptt pt B).data.toList ++ 101 :: (⟨#[if dn then 45 else 43]⟩ ++ tx m : ByteArray).data.toList := by
      rw [ht]; simp [ByteArray.data_append]
    have hat : Lib.indexAny (deT false pt true dn A B (tx m)).data.toList [101, 69] = ((A ++ ptt pt B).size : Int) := by
      rw [hlist, any_hit _ _ _ 101 (by decide) hno, list_len]
    have hss : (deT false pt true dn A B (tx m)).size = (A ++ ptt pt B).size + (1 + (1 + (tx m).size)) := by
      rw [ht]; simp only [ByteArray.size_append, size_one]
    have e0 : (if true = true then (if dn then -(m : Int) else (m : Int)) else 0) = (if dn then -(m : Int) else (m : Int)) := if_pos rfl
    rw [e0]
    refine cutDec_yes _ (A ++ ptt pt B) (⟨#[if dn then 45 else 43]⟩ ++ tx m) A (Bh pt B) _ pt ((A ++ ptt pt B).size : Int) (if dn then -(m : Int) else (m : Int)) w (by omega) (by omega) (by omega) ?_ ?_ (by cases dn <;> simp <;> omega) (by cases dn <;> simp <;> omega) (by omega) (by omega) ?_ (fun W hW => exp_tx m dn m1 m2 W) (fun W hW => cut_at_pt pt A B W (hc.later hW) hA hs) HT
    · rw [ht, Int.toNat_natCast]
      exact extract_pre _ _
    · have z : (((A ++ ptt pt B).size : Int) + 1).toNat = ((A ++ ptt pt B) ++ ⟨#[101]⟩ : ByteArray).size + 0 := by rw [ByteArray.size_append (a := A ++ ptt pt B), size_one]; omega
      have z2 : (deT false pt true dn A B (tx m)).size = ((A ++ ptt pt B) ++ ⟨#[101]⟩ : ByteArray).size + (⟨#[if dn then 45 else 43]⟩ ++ tx m : ByteArray).size := by rw [hss, ByteArray.size_append (a := A ++ ptt pt B), ByteArray.size_append (b := tx m), size_one, size_one]; omega
      have z3 : deT false pt true dn A B (tx m) = ((A ++ ptt pt B) ++ ⟨#[101]⟩) ++ (⟨#[if dn then 45 else 43]⟩ ++ tx m) := by rw [ht]; simp only [ByteArray.append_assoc]
      rw [z, z2, z3, extract_sh]
      exact extract_all _
    · intro W
      have := Tryz.strings_IndexAny zero160 (deT false pt true dn A B (tx m)) ⟨#[101, 69]⟩ W (by omega) (by decide) (ascii_of false pt true dn A B (tx m) hA hB hX) ascii_eE
      rw [e1, hat] at this
      exact this
end Go.Proofs.YtijifpbpjinmhaaGreatDoor

/- prefix.onlyReading: none, just one, or more. -/
import Derived.Test.YtpoapffbpgnkpaaGreatDoorUIdx
import Derived.Test.YtpoapffbpgnkpaaGreatDoorTell
namespace Go.Proofs.YtpoapffbpgnkpaaGreatDoor
open Go.RowKit
/-- A cut: a prefix by its number, and what the unit must be called. -/
structure CV where
  p : Nat
  bi : Bool
  nm : ByteArray
  sy : ByteArray
structure CAt (W : World) (b o : Nat) (c : CV) : Prop where
  c0 : W.cell? ⟨b, o, none⟩ = some (.int .i64 (c.p : Int))
  c1 : W.cell? ⟨b, o + 1, none⟩ = some (.bool c.bi)
  c2 : W.cell? ⟨b, o + 2, none⟩ = some (.string c.nm)
  c3 : W.cell? ⟨b, o + 3, none⟩ = some (.string c.sy)
theorem CAt.later {W V : World} {b o : Nat} {c : CV} (h : CAt W b o c) (hb : Below W.heap.size W V) : CAt V b o c := by
  have hl : b < W.heap.size := World.block_lt_of_cell? _ _ h.c0
  exact ⟨(hb.cell (p := ⟨b, o, none⟩) hl).trans h.c0, (hb.cell (p := ⟨b, o + 1, none⟩) hl).trans h.c1, (hb.cell (p := ⟨b, o + 2, none⟩) hl).trans h.c2, (hb.cell (p := ⟨b, o + 3, none⟩) hl).trans h.c3⟩
def InC (W : World) (a : Option Addr) (n : Nat) (cs : Nat → CV) : Prop := 0 < n → ∃ b o, a = some ⟨b, o, none⟩ ∧ b < W.heap.size ∧ ∀ i, i < n → CAt W b (o + i * 4) (cs i)
theorem InC.later {W V : World} {a : Option Addr} {n : Nat} {cs : Nat → CV} (h : InC W a n cs) (hb : Below W.heap.size W V) : InC V a n cs := fun hn => by
  obtain ⟨b, o, e, hl, hc⟩ := h hn
  exact ⟨b, o, e, Nat.lt_of_lt_of_le hl hb.size, fun i hi => (hc i hi).later hb⟩
def rdB (c : CV) (u : UV) : Bool := readsB c.nm c.sy u.nm u.sy c.bi u.tk
/-- The readings that stand ahead of a place. -/
def Seen (cs : Nat → CV) (us : Nat → UV) (n k j a b : Nat) : Prop := (∃ c, c < k ∧ (cs c).p = a ∧ b < n ∧ rdB (cs c) (us b) = true) ∨ ((cs k).p = a ∧ b < j ∧ rdB (cs k) (us b) = true)
/-- None so far, or just one. -/
def St (S : Nat → Nat → Prop) (e : Int) (p i : Nat) : Prop := (e = 5 ∧ p = 0 ∧ i = 0 ∧ ∀ a b, ¬ S a b) ∨ (e = 0 ∧ S p i ∧ ∀ a b, S a b → a = p ∧ b = i)
def ROut (S : Nat → Nat → Prop) (e : Int) (p i : Nat) : Prop := St S e p i ∨ (e = 71 ∧ p = 0 ∧ i = 0 ∧ ∃ a b a' b', S a b ∧ S a' b' ∧ ¬ (a = a' ∧ b = b'))
theorem St.congr {S T : Nat → Nat → Prop} (h : ∀ a b, S a b ↔ T a b) {e : Int} {p i : Nat} (hs : St S e p i) : St T e p i := by
  have : S = T := by funext a b; exact propext (h a b)
  rw [← this]; exact hs
theorem ROut.congr {S T : Nat → Nat → Prop} (h : ∀ a b, S a b ↔ T a b) {e : Int} {p i : Nat} (hs : ROut S e p i) : ROut T e p i := by
  have : S = T := by funext a b; exact propext (h a b)
  rw [← this]; exact hs
theorem ROut.det {S : Nat → Nat → Prop} {e e' : Int} {p i p' i' : Nat} (h : ROut S e p i) (h' : ROut S e' p' i') : e = e' ∧ p = p' ∧ i = i' := by
  rcases h with (⟨rfl, rfl, rfl, h⟩ | ⟨rfl, h, g⟩) | ⟨rfl, rfl, rfl, a, b, a', b', h1, h2, h3⟩ <;> rcases h' with (⟨rfl, rfl, rfl, k⟩ | ⟨rfl, k, l⟩) | ⟨rfl, rfl, rfl, c, d, c', d', k1, k2, k3⟩
  · exact ⟨rfl, rfl, rfl⟩
  · exact absurd k (h _ _)
  · exact absurd k1 (h _ _)
  · exact absurd h (k _ _)
  · exact ⟨rfl, (l _ _ h).1, (l _ _ h).2⟩
  · have x := g _ _ k1; have y := g _ _ k2; exact absurd ⟨x.1.trans y.1.symm, x.2.trans y.2.symm⟩ k3
  · exact absurd h1 (k _ _)
  · have x := l _ _ h1; have y := l _ _ h2; exact absurd ⟨x.1.trans y.1.symm, x.2.trans y.2.symm⟩ h3
  · exact ⟨rfl, rfl, rfl⟩
theorem seen_succ {cs : Nat → CV} {us : Nat → UV} {n k j : Nat} (a b : Nat) : Seen cs us n k (j + 1) a b ↔ Seen cs us n k j a b ∨ ((cs k).p = a ∧ b = j ∧ rdB (cs k) (us j) = true) := by
  unfold Seen
  constructor
  · rintro (h | ⟨h1, h2, h3⟩)
    · exact Or.inl (Or.inl h)
    · by_cases e : b = j
      · subst e; exact Or.inr ⟨h1, rfl, h3⟩
      · exact Or.inl (Or.inr ⟨h1, by omega, h3⟩)
  · rintro ((h | ⟨h1, h2, h3⟩) | ⟨h1, rfl, h3⟩)
    · exact Or.inl h
    · exact Or.inr ⟨h1, by omega, h3⟩
    · exact Or.inr ⟨h1, by omega, h3⟩
theorem seen_row {cs : Nat → CV} {us : Nat → UV} {n k : Nat} (a b : Nat) : Seen cs us n k n a b ↔ Seen cs us n (k + 1) 0 a b := by
  unfold Seen
  constructor
  · rintro (⟨c, h1, h2⟩ | ⟨h1, h2, h3⟩)
    · exact Or.inl ⟨c, by omega, h2⟩
    · exact Or.inl ⟨k, by omega, h1, h2, h3⟩
  · rintro (⟨c, h1, h2⟩ | ⟨h1, h2, h3⟩)
    · by_cases e : c = k
      · subst e; exact Or.inr h2
      · exact Or.inl ⟨c, by omega, h2⟩
    · omega
theorem seen_end {cs : Nat → CV} {us : Nat → UV} {n m : Nat} (a b : Nat) : Seen cs us n m 0 a b ↔ ∃ c, c < m ∧ (cs c).p = a ∧ b < n ∧ rdB (cs c) (us b) = true := by
  unfold Seen
  constructor
  · rintro (h | ⟨h1, h2, h3⟩)
    · exact h
    · omega
  · exact fun h => Or.inl h
theorem seen_le {cs : Nat → CV} {us : Nat → UV} {n m k j a b : Nat} (hk : k < m) (hj : j ≤ n) (h : Seen cs us n k j a b) : Seen cs us n m 0 a b := by
  rcases h with ⟨c, h1, h2⟩ | ⟨h1, h2, h3⟩
  · exact Or.inl ⟨c, by omega, h2⟩
  · exact Or.inl ⟨k, hk, h1, by omega, h3⟩
theorem st_skip {cs : Nat → CV} {us : Nat → UV} {n k j p i : Nat} {e : Int} (h : St (Seen cs us n k j) e p i) (hr : rdB (cs k) (us j) = false) : St (Seen cs us n k (j + 1)) e p i :=
  h.congr fun a b => by rw [seen_succ, hr]; simp
theorem st_same {cs : Nat → CV} {us : Nat → UV} {n k j p i : Nat} (h : St (Seen cs us n k j) 0 p i) (hp : (cs k).p = p) (hi : j = i) : St (Seen cs us n k (j + 1)) 0 p i := by
  rcases h with ⟨h, _⟩ | ⟨_, h1, h2⟩
  · cases h
  · refine Or.inr ⟨rfl, (seen_succ _ _).2 (Or.inl h1), fun a b hab => ?_⟩
    rcases (seen_succ _ _).1 hab with h | ⟨e1, e2, _⟩
    · exact h2 a b h
    · exact ⟨e1.symm.trans hp, e2.trans hi⟩
theorem st_new {cs : Nat → CV} {us : Nat → UV} {n k j p i : Nat} (h : St (Seen cs us n k j) 5 p i) (hr : rdB (cs k) (us j) = true) : St (Seen cs us n k (j + 1)) 0 (cs k).p j := by
  rcases h with ⟨_, _, _, h⟩ | ⟨h, _⟩
  · refine Or.inr ⟨rfl, (seen_succ _ _).2 (Or.inr ⟨rfl, rfl, hr⟩), fun a b hab => ?_⟩
    rcases (seen_succ _ _).1 hab with h1 | ⟨e1, e2, _⟩
    · exact absurd h1 (h a b)
    · exact ⟨e1.symm, e2⟩
  · cases h
theorem st_mixed {cs : Nat → CV} {us : Nat → UV} {n m k j p i : Nat} (hk : k < m) (hj : j < n) (h : St (Seen cs us n k j) 0 p i) (hr : rdB (cs k) (us j) = true) (hne : ¬ ((cs k).p = p ∧ j = i)) : ROut (Seen cs us n m 0) 71 0 0 := by
  rcases h with ⟨h, _⟩ | ⟨_, h1, h2⟩
  · cases h
  · exact Or.inr ⟨rfl, rfl, rfl, (cs k).p, j, p, i, seen_le (j := j + 1) hk (by omega) ((seen_succ _ _).2 (Or.inr ⟨rfl, rfl, hr⟩)), seen_le (j := j) hk (by omega) h1, hne⟩
theorem st_e {S : Nat → Nat → Prop} {e : Int} {p i : Nat} (h : St S e p i) : e = 5 ∨ e = 0 := by
  rcases h with ⟨h, _⟩ | ⟨h, _⟩
  · exact Or.inl h
  · exact Or.inr h
/-- Four cells of a box. -/
structure T4 (W : World) (g : Nat) (a b c d : Value) : Prop where
  c0 : W.cell? ⟨g, 0, none⟩ = some a
  c1 : W.cell? ⟨g, 1, none⟩ = some b
  c2 : W.cell? ⟨g, 2, none⟩ = some c
  c3 : W.cell? ⟨g, 3, none⟩ = some d
theorem T4.lt {W : World} {g : Nat} {a b c d : Value} (h : T4 W g a b c d) : g < W.heap.size := World.block_lt_of_cell? _ _ h.c0
theorem T4.later {W V : World} {g : Nat} {a b c d : Value} (h : T4 W g a b c d) (hb : Below W.heap.size W V) : T4 V g a b c d :=
  ⟨(hb.cell (p := ⟨g, 0, none⟩) h.lt).trans h.c0, (hb.cell (p := ⟨g, 1, none⟩) h.lt).trans h.c1, (hb.cell (p := ⟨g, 2, none⟩) h.lt).trans h.c2, (hb.cell (p := ⟨g, 3, none⟩) h.lt).trans h.c3⟩
theorem T4.other {W : World} {g k : Nat} {a b c d : Value} (h : T4 W g a b c d) (hk : g ≠ k) (x y : Value) : T4 (store2 W k x y) g a b c d := by
  have e : ∀ i u, W.cell? ⟨g, i, none⟩ = some u → (store2 W k x y).cell? ⟨g, i, none⟩ = some u := fun i u hu => by
    unfold store2
    rw [World.cell?_setCell_other _ _ _ _ (by intro e; exact hk (congrArg Addr.block e).symm), World.cell?_setCell_other _ _ _ _ (by intro e; exact hk (congrArg Addr.block e).symm)]
    exact hu
  exact ⟨e _ _ h.c0, e _ _ h.c1, e _ _ h.c2, e _ _ h.c3⟩
theorem T2.other2 {W : World} {g k : Nat} {a b : Value} (h : T2 W g a b) (hk : g ≠ k) (x y : Value) : T2 (store2 W k x y) g a b := (h.otherAt hk x).otherAt hk y
set_option maxRecDepth 100000 in
set_option maxHeartbeats 4000000 in
theorem only_any (a : Option Addr) (m cap : Nat) (cs : Nat → CV) (a' : Option Addr) (n cap' : Nat) (us : Nat → UV) (w : World) (hC : InC w a m cs) (hm : m ≤ 1000) (hU : InU w a' n us) (hn : n ≤ maxLen) (hp : ∀ c, c < m → (cs c).p < 32) :
    Calls Tryz.prog 15 #[.slice a m cap, .slice a' n cap'] w fun r w' => ∃ (e : Int) (p i : Nat), r = .returned (.tuple #[.agg #[.int .i64 (p : Int), .int .i64 (i : Int)], .int .i64 e]) ∧ ROut (Seen cs us n m 0) e p i ∧ Below w.heap.size w w' := by
  have HU := hide hU; have HC := hide hC; have HP := hide hp
  unfold maxLen at hn
  clear hU hC hp
  obtain ⟨V, hV⟩ : ∃ V, V = (w.alloc (.cells #[.int .i64 0, .int .i64 0] 44)).alloc (.cells #[.int .i64 0, .int .i64 0] 44) := ⟨_, rfl⟩
  have HT0 : Hid (T2 V w.heap.size (.int .i64 0) (.int .i64 0)) := by rw [hV]; exact ⟨by simp [go_sem], by simp [go_sem], by simp [go_sem], by simp [go_sem]⟩
  have HF0 : Hid (T2 V (w.heap.size + 1) (.int .i64 ((0 : Nat) : Int)) (.int .i64 ((0 : Nat) : Int))) := by rw [hV]; exact ⟨by simp [go_sem], by simp [go_sem], by simp [go_sem], by simp [go_sem]⟩
  have HBV : Hid (Below w.heap.size w V) := by rw [hV]; exact ((Below.refl _ _).alloc (Nat.le_refl _) _).alloc (by simp) _
  have HV := hide hV
  clear hV
  go_enter Tryz.func15, Tryz.ntmps15
  go_upto_region 2 with fail
  rw [← unhide HV]
  clear HV
  go_wp2_with fail
  go_loopw [16, 7] (fun s16 s7 wr => ∃ (k : Nat) (e : Int) (p i : Nat), k ≤ m ∧ s16 = .int .i64 (k : Int) ∧ s7 = .int .i64 e ∧ Hid (St (Seen cs us n k 0) e p i) ∧ Hid (T2 wr (w.heap.size + 1) (.int .i64 (p : Int)) (.int .i64 (i : Int))) ∧ Hid (T2 wr w.heap.size (.int .i64 0) (.int .i64 0)) ∧ Hid (Below w.heap.size w wr)) (fun s16 _ _ => m - (intOf s16).toNat)
  case atStart => exact ⟨0, 5, 0, 0, by omega, rfl, rfl, Or.inl ⟨rfl, rfl, rfl, fun a b h => by rcases h with ⟨c, h, _⟩ | ⟨_, h, _⟩ <;> omega⟩, HF0, HT0, HBV⟩
  case round =>
    obtain ⟨k, e, p, i, hk, rfl, rfl, HS, HF, HT, HB⟩ := hrel
    by_cases hkm : k < m
    · have hkI : (k : Int) < (m : Int) := by omega
      have hk0 : (0 : Int) ≤ (k : Int) := by omega
      obtain ⟨gc, oc, rfl, hgc, hrc⟩ := ((unhide HC).later (unhide HB)) (by omega)
      have hrow := hrc k hkm
      have HP32 := hide (unhide HP k hkm)
      clear hrc hgc
      obtain ⟨wo, hwo⟩ : ∃ wo, wo = wr := ⟨_, rfl⟩
      subst hwo
      have k0 := hrow.c0; have k1 := hrow.c1; have k2 := hrow.c2; have k3 := hrow.c3
      clear hrow
      obtain ⟨c, hc⟩ : ∃ c, c = cs k := ⟨_, rfl⟩
      have HCK := hide hc
      rw [← hc] at k0 k1 k2 k3
      clear hc
      go_upto_region 6 with fail
      obtain ⟨V9, hV9⟩ : ∃ V9, V9 = wo.alloc (.cells #[.int .i64 (c.p : Int), .bool c.bi, .string c.nm, .string c.sy] 85) := ⟨_, rfl⟩
      have hb9 : Below wo.heap.size wo V9 := by rw [hV9]; exact (Below.refl _ _).alloc (Nat.le_refl _) _
      have HK9 : Hid (T4 V9 wo.heap.size (.int .i64 (c.p : Int)) (.bool c.bi) (.string c.nm) (.string c.sy)) := by rw [hV9]; exact ⟨by simp [go_sem], by simp [go_sem], by simp [go_sem], by simp [go_sem]⟩
      have HF9 := hide ((unhide HF).later hb9)
      have HT9 := hide ((unhide HT).later hb9)
      have HB9 : Hid (Below w.heap.size w V9) := (unhide HB).trans (hb9.mono (unhide HB).size)
      have HL9 : Hid (w.heap.size + 1 < wo.heap.size) := (unhide HF).lt
      rw [← hV9]
      clear hV9 hb9 k0 k1 k2 k3 HF HT HB
      generalize wo.heap.size = g9 at *
      go_loopw [22, 7] (fun s22 s7 wr => ∃ (j : Nat) (e : Int) (p i : Nat), j ≤ n ∧ s22 = .int .i64 (j : Int) ∧ s7 = .int .i64 e ∧ Hid (St (Seen cs us n k j) e p i) ∧ Hid (T2 wr (w.heap.size + 1) (.int .i64 (p : Int)) (.int .i64 (i : Int))) ∧ Hid (T2 wr w.heap.size (.int .i64 0) (.int .i64 0)) ∧ Hid (T4 wr g9 (.int .i64 (c.p : Int)) (.bool c.bi) (.string c.nm) (.string c.sy)) ∧ Hid (Below w.heap.size w wr)) (fun s22 _ _ => n - (intOf s22).toNat)
      case atStart => exact ⟨0, e, p, i, by omega, rfl, rfl, HS, HF9, HT9, HK9, HB9⟩
      case round =>
        clear HS HF9 HT9 HK9 HB9
        obtain ⟨j, e2, p2, i2, hj, rfl, rfl, HS, HF, HT, HK, HB⟩ := hrel
        by_cases hjn : j < n
        · have hjI : (j : Int) < (n : Int) := by omega
          have hj0 : (0 : Int) ≤ (j : Int) := by omega
          obtain ⟨gu, ou, rfl, hgu, hru⟩ := ((unhide HU).later (unhide HB)) (by omega)
          have hrow := hru j hjn
          clear hru hgu
          have HRD := hide (fun W => reads_any (c.p : Int) c.bi c.nm c.sy (us j).nm (us j).sy (us j).d0 (us j).d1 (us j).d2 (us j).d3 (us j).d4 (us j).d5 (us j).d6 (us j).d7 (us j).fn (us j).fd (us j).on (us j).od (us j).tk W)
          have hrb : readsB c.nm c.sy (us j).nm (us j).sy c.bi (us j).tk = rdB (cs k) (us j) := by rw [unhide HCK]; rfl
          rw [hrb] at HRD
          clear hrb
          have c0 := hrow.c0; have c1 := hrow.c1; have c2 := hrow.c2; have c3 := hrow.c3; have c4 := hrow.c4; have c5 := hrow.c5; have c6 := hrow.c6; have c7 := hrow.c7; have c8 := hrow.c8; have c9 := hrow.c9; have c10 := hrow.c10; have c11 := hrow.c11; have c12 := hrow.c12; have c13 := hrow.c13; have c14 := hrow.c14
          clear hrow
          obtain ⟨rb, hrb⟩ : ∃ rb, rb = rdB (cs k) (us j) := ⟨_, rfl⟩
          rw [← hrb] at HRD
          have HR := hide hrb
          clear hrb
          generalize us j = u at c0 c1 c2 c3 c4 c5 c6 c7 c8 c9 c10 c11 c12 c13 c14 HRD
          obtain ⟨nm, sy, d0, d1, d2, d3, d4, d5, d6, d7, fn, fd, on, od, tk⟩ := u
          obtain ⟨wi, hwi⟩ : ∃ wi, wi = wr := ⟨_, rfl⟩
          subst hwi
          have k0 := (unhide HK).c0
          have hgl := (unhide HK).lt
          go_upto_region 9 with fail
          obtain ⟨U, hU⟩ : ∃ U, U = (wi.alloc (.cells #[.string nm, .string sy, .int .i64 d0, .int .i64 d1, .int .i64 d2, .int .i64 d3, .int .i64 d4, .int .i64 d5, .int .i64 d6, .int .i64 d7, .string fn, .string fd, .string on, .string od, .int .i64 tk] 28)).alloc (.cells #[.int .i64 (c.p : Int), .int .i64 (j : Int)] 44) := ⟨_, rfl⟩
          have hbU : Below wi.heap.size wi U := by rw [hU]; exact ((Below.refl _ _).alloc (Nat.le_refl _) _).alloc (by simp) _
          have HU15 : Hid (U.cell? ⟨wi.heap.size, 0, none⟩ = some (.string nm) ∧ U.cell? ⟨wi.heap.size, 1, none⟩ = some (.string sy) ∧ U.cell? ⟨wi.heap.size, 2, none⟩ = some (.int .i64 d0) ∧ U.cell? ⟨wi.heap.size, 3, none⟩ = some (.int .i64 d1) ∧ U.cell? ⟨wi.heap.size, 4, none⟩ = some (.int .i64 d2) ∧ U.cell? ⟨wi.heap.size, 5, none⟩ = some (.int .i64 d3) ∧ U.cell? ⟨wi.heap.size, 6, none⟩ = some (.int .i64 d4) ∧ U.cell? ⟨wi.heap.size, 7, none⟩ = some (.int .i64 d5) ∧ U.cell? ⟨wi.heap.size, 8, none⟩ = some (.int .i64 d6) ∧ U.cell? ⟨wi.heap.size, 9, none⟩ = some (.int .i64 d7) ∧ U.cell? ⟨wi.heap.size, 10, none⟩ = some (.string fn) ∧ U.cell? ⟨wi.heap.size, 11, none⟩ = some (.string fd) ∧ U.cell? ⟨wi.heap.size, 12, none⟩ = some (.string on) ∧ U.cell? ⟨wi.heap.size, 13, none⟩ = some (.string od) ∧ U.cell? ⟨wi.heap.size, 14, none⟩ = some (.int .i64 tk)) := by rw [hU]; exact ⟨by simp [go_sem], by simp [go_sem], by simp [go_sem], by simp [go_sem], by simp [go_sem], by simp [go_sem], by simp [go_sem], by simp [go_sem], by simp [go_sem], by simp [go_sem], by simp [go_sem], by simp [go_sem], by simp [go_sem], by simp [go_sem], by simp [go_sem]⟩
          have HO1 : Hid (T2 U (wi.heap.size + 1) (.int .i64 (c.p : Int)) (.int .i64 (j : Int))) := by rw [hU]; exact ⟨by simp [go_sem], by simp [go_sem], by simp [go_sem], by simp [go_sem]⟩
          have HF1 := hide ((unhide HF).later hbU)
          have HT1 := hide ((unhide HT).later hbU)
          have HK1 := hide ((unhide HK).later hbU)
          have HB1 : Hid (Below w.heap.size w U) := (unhide HB).trans (hbU.mono (unhide HB).size)
          have HG9 : Hid (g9 ≠ w.heap.size + 1) := by have h := unhide HL9; show _ ≠ _; omega
          rw [← hU]
          clear hU hbU HF HT HK HB k0 hgl c0 c1 c2 c3 c4 c5 c6 c7 c8 c9 c10 c11 c12 c13 c14
          generalize wi.heap.size = gi at *
          obtain ⟨c0, c1, c2, c3, c4, c5, c6, c7, c8, c9, c10, c11, c12, c13, c14⟩ := unhide HU15
          have k0 := (unhide HK1).c0; have k1 := (unhide HK1).c1; have k2 := (unhide HK1).c2; have k3 := (unhide HK1).c3
          cases rb
          · have HSN := hide (st_skip (unhide HS) (unhide HR).symm)
            go_wp2_with (go_at_call 36; go_must (refine (unhide HRD _).mono ?_; rintro e wt ⟨rfl, hbt⟩; have HBT := hide hbt; clear hbt c0 c1 c2 c3 c4 c5 c6 c7 c8 c9 c10 c11 c12 c13 c14 k0 k1 k2 k3))
            go_roundw
            case rel => exact ⟨j + 1, e2, p2, i2, by omega, by go_num, rfl, HSN, (unhide HF1).later (unhide HBT), (unhide HT1).later (unhide HBT), (unhide HK1).later (unhide HBT), (unhide HB1).trans ((unhide HBT).mono (unhide HB1).size)⟩
            case measure => simp [intOf]; omega
          · rcases st_e (unhide HS) with rfl | rfl
            · have HSN := hide (st_new (unhide HS) (unhide HR).symm)
              rw [← unhide HCK] at HSN
              go_wp2_with (go_at_call 36; go_must (refine (unhide HRD _).mono ?_; rintro e wt ⟨rfl, hbt⟩; have HBT := hide hbt; clear hbt c0 c1 c2 c3 c4 c5 c6 c7 c8 c9 c10 c11 c12 c13 c14 k0 k1 k2 k3; have HO2 := hide ((unhide HO1).later (unhide HBT)); have HF2 := hide ((unhide HF1).later (unhide HBT)); have o0 := (unhide HO2).c0; have o1 := (unhide HO2).c1; have q0 := (unhide HF2).c0; have q1 := (unhide HF2).c1; have r0 := (unhide HF2).f0; have r1 := (unhide HF2).f1))
              go_roundw
              case rel => exact ⟨j + 1, 0, c.p, j, by omega, by go_num, rfl, HSN, (unhide HF2).store _ _, ((unhide HT1).later (unhide HBT)).other2 (by omega) _ _, ((unhide HK1).later (unhide HBT)).other (unhide HG9) _ _, below_store2 ((unhide HB1).trans ((unhide HBT).mono (unhide HB1).size)) (by omega) _ _⟩
              case measure => simp [intOf]; omega
            · by_cases hpp : c.p = p2 ∧ j = i2
              · have HSN := hide (st_same (unhide HS) (by rw [← unhide HCK]; exact hpp.1) hpp.2)
                obtain ⟨hp1, hp2⟩ := hpp
                have e1 : ((c.p : Int) == (p2 : Int)) = true := by rw [hp1]; simp
                have e2 : ((j : Int) == (i2 : Int)) = true := by rw [hp2]; simp
                clear hp1 hp2
                go_wp2_with (go_at_call 36; go_must (refine (unhide HRD _).mono ?_; rintro e wt ⟨rfl, hbt⟩; have HBT := hide hbt; clear hbt c0 c1 c2 c3 c4 c5 c6 c7 c8 c9 c10 c11 c12 c13 c14 k0 k1 k2 k3; have HO2 := hide ((unhide HO1).later (unhide HBT)); have HF2 := hide ((unhide HF1).later (unhide HBT)); have o0 := (unhide HO2).c0; have o1 := (unhide HO2).c1; have q0 := (unhide HF2).c0; have q1 := (unhide HF2).c1))
                go_roundw
                case rel => exact ⟨j + 1, 0, p2, i2, by omega, by go_num, rfl, HSN, HF2, (unhide HT1).later (unhide HBT), (unhide HK1).later (unhide HBT), (unhide HB1).trans ((unhide HBT).mono (unhide HB1).size)⟩
                case measure => simp [intOf]; omega
              · have HM := hide (st_mixed hkm hjn (unhide HS) (unhide HR).symm (by rw [← unhide HCK]; exact hpp))
                have HEN : Hid (((((c.p : Int) == (p2 : Int)) && ((j : Int) == (i2 : Int))) = false)) := by show _ = _; rw [Bool.and_eq_false_iff, beq_eq_false_iff_ne, beq_eq_false_iff_ne]; omega
                cases e1 : ((c.p : Int) == (p2 : Int)) <;> cases e2 : ((j : Int) == (i2 : Int))
                all_goals
                  first
                  | (have h := unhide HEN; rw [e1, e2] at h; cases h; done)
                  | (clear hpp
                     go_wp2_with (go_at_call 36; go_must (refine (unhide HRD _).mono ?_; rintro e wt ⟨rfl, hbt⟩; have HBT := hide hbt; clear hbt c0 c1 c2 c3 c4 c5 c6 c7 c8 c9 c10 c11 c12 c13 c14 k0 k1 k2 k3; have HO2 := hide ((unhide HO1).later (unhide HBT)); have HF2 := hide ((unhide HF1).later (unhide HBT)); have HT2 := hide ((unhide HT1).later (unhide HBT)); have o0 := (unhide HO2).c0; have o1 := (unhide HO2).c1; have q0 := (unhide HF2).c0; have q1 := (unhide HF2).c1; have r0 := (unhide HT2).c0; have r1 := (unhide HT2).c1; have f0 := (unhide HT2).f0; have f1 := (unhide HT2).f1))
                     have hS := (unhide HT2).store (.int .i64 0) (.int .i64 0)
                     have v0 := hS.c0
                     have v1 := hS.c1
                     exact bodyPost_ret (v := .tuple #[.agg #[.int .i64 0, .int .i64 0], .int .i64 71]) (w := store2 wt w.heap.size (.int .i64 0) (.int .i64 0)) (by simp [results, Tryz.results15, go_sem, v0, v1]) rfl ⟨71, 0, 0, rfl, unhide HM, below_store2 ((unhide HB1).trans ((unhide HBT).mono (unhide HB1).size)) (Nat.le_refl _) _ _⟩)
        · have hjI : ¬ (j : Int) < (n : Int) := by omega
          have HJN : Hid (j = n) := by show _ = _; omega
          have HSN : Hid (St (Seen cs us n (k + 1) 0) e2 p2 i2) := (by have h := unhide HS; rw [unhide HJN] at h; exact h.congr seen_row)
          go_wp2_with fail
          go_roundw
          case rel => exact ⟨k + 1, e2, p2, i2, by omega, by go_num, rfl, HSN, HF, HT, HB⟩
          case measure => simp [intOf]; omega
    · have hkI : ¬ (k : Int) < (m : Int) := by omega
      have HKM : Hid (k = m) := by show _ = _; omega
      have q0 := (unhide HF).c0; have q1 := (unhide HF).c1; have r0 := (unhide HT).c0; have r1 := (unhide HT).c1; have f0 := (unhide HT).f0; have f1 := (unhide HT).f1
      go_wp2_with fail
      have hS := (unhide HT).store (.int .i64 (p : Int)) (.int .i64 (i : Int))
      have v0 := hS.c0; have v1 := hS.c1
      exact bodyPost_ret (v := .tuple #[.agg #[.int .i64 (p : Int), .int .i64 (i : Int)], .int .i64 e]) (w := store2 wr w.heap.size (.int .i64 (p : Int)) (.int .i64 (i : Int))) (by simp [results, Tryz.results15, go_sem, v0, v1]) rfl ⟨e, p, i, rfl, Or.inl (by have h := unhide HS; rw [unhide HKM] at h; exact h), below_store2 (unhide HB) (Nat.le_refl _) _ _⟩
end Go.Proofs.YtpoapffbpgnkpaaGreatDoor

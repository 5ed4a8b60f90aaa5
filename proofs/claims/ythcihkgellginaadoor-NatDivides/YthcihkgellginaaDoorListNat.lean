/- nat.Sum and nat.Prod of a list of texts. -/
import Derived.Test.YthcihkgellginaaDoorListRef
import Derived.Test.YthcihkgellginaaDoorMul
import Derived.Test.YthcihkgellginaaDoorLen
import Derived.Deep.Cut
namespace Go.Proofs.YthcihkgellginaaDoor
open Go.RowKit

theorem bigN (s : ByteArray) (w : World) (h : Cub.rightB s.data.toList = true) :
    Calls Tryd.prog 62 #[.string s] w fun e w' => ∃ a n c, e = .returned (.agg #[.slice a n c]) ∧ IsBig w' (.agg #[.slice a n c]) (val s) ∧ Below w.heap.size w w' := by
  refine (bigText_any s w (Nat.le_trans (right_dig2 h).2 (by decide)) (right_dig2 h).1).mono ?_
  rintro e w' ⟨v, rfl, hv, hb⟩
  obtain ⟨a, n, c, rfl⟩ := hv.shape
  exact ⟨a, n, c, rfl, hv, hb⟩
theorem addB (x y : Value) (m n r k : Nat) (w : World) (hx : IsBig w x m) (hy : IsBig w y n) (hk : k ≤ 1000000) (hm : m < 1000000000 ^ k) (hn : n < 1000000000 ^ k) (hr : r = m + n) :
    Calls Tryd.prog 45 #[x, y] w fun e w' => ∃ a l c, e = .returned (.agg #[.slice a l c]) ∧ IsBig w' (.agg #[.slice a l c]) r ∧ Below w.heap.size w w' := by
  subst hr
  refine (add_any x y m n k w hx hy hk hm hn).mono ?_
  rintro e w' ⟨v, rfl, hv, hb⟩
  obtain ⟨a, n, c, rfl⟩ := hv.shape
  exact ⟨a, n, c, rfl, hv, hb⟩

set_option maxRecDepth 100000 in
set_option maxHeartbeats 400000 in
theorem natSum_any (a : Option Addr) (n cap : Nat) (ss : List ByteArray) (w : World) (hn : n = ss.length) (hmax : n ≤ 9223372036854775807)
    (hc : InMem w a ss) (hs : ∀ i (hi : i < ss.length), ss[i].size ≤ maxLen) (htab : Tab w) :
    Calls Tryd.prog 34 #[.slice a n cap] w fun e w' => e = .returned (.tuple #[.string ⟨(sumText ss).toArray⟩, .int .i64 (sumErr ss)]) ∧ Below w.heap.size w w' := by
  have HR := hide (fun W (e : W = w) => by subst e; exact allRight_any a n cap ss W hn hmax hc hs)
  have HN := hide hn
  have HC := hide hc
  have HT := hide htab
  clear hn hc hs htab
  unfold sumText sumErr
  cases hb : allRight ss with
  | false =>
    rw [hb] at HR
    simp only [Bool.false_eq_true, if_false]
    clear hb
    go_enter Tryd.func34, Tryd.ntmps34
    go_wp2_with (go_at_call 67; refine (unhide HR _ rfl).mono ?_; rintro e w' ⟨rfl, hw⟩; subst w')
    go_ret2
    exact ⟨rfl, Below.refl _ _⟩
  | true =>
    have HA := hide hb
    rw [hb] at HR
    simp only [if_true]
    clear hb
    go_enter Tryd.func34, Tryd.ntmps34
    go_wp2_with (go_at_call 67; refine (unhide HR _ rfl).mono ?_; rintro e w' ⟨rfl, hw⟩; subst w')
    go_loopw [13] (fun t wr => ∃ (k : Nat) (xa : Option Addr) (xn xc : Nat), k ≤ n ∧ t = .int .i64 (k : Int) ∧ wr.cell? ⟨w.heap.size, 0, none⟩ = some (.slice xa xn xc) ∧ wr.frozen? ⟨w.heap.size, 0, none⟩ = false ∧ Hid (IsBig wr (.agg #[.slice xa xn xc]) (sumK ss k)) ∧ Below w.heap.size w wr) (fun t _ => n - (intOf t).toNat)
    case atStart => exact ⟨0, none, 0, 0, Nat.zero_le _, rfl, World.cell?_alloc_at _ _ _ _ rfl, World.frozen?_alloc_at _ _ _ _ rfl, IsBig.zero _, (Below.refl _ _).alloc (Nat.le_refl _) _⟩
    case round =>
      obtain ⟨k, xa, xn, xc, hk, rfl, hcell, hfr, HB, hbl⟩ := hrel
      by_cases hkn : k < n
      · have hkl : k < ss.length := by have := unhide HN; omega
        obtain ⟨b, o, rfl, hx⟩ := ((unhide HC).later hbl) k hkl
        have H62 := hide (fun W => bigN ss[k] W (right_at (unhide HA) k hkl))
        have H45 := hide (fun W x y (hx : IsBig W x (sumK ss k)) (hy : IsBig W y (val ss[k])) => addB x y (sumK ss k) (val ss[k]) (sumK ss (k + 1)) 69 W hx hy (by decide)
          (Nat.lt_of_lt_of_le (sumK_620 (unhide HA) k (by omega) (by omega)) (pow_nine 620 69 (by decide)))
          (Nat.lt_of_lt_of_le (right_val (right_at (unhide HA) k hkl)) (pow_nine 600 69 (by decide))) (sumK_succ ss k hkl))
        generalize hsk : ss[k] = s at *
        clear hsk
        go_upto_region 7 with fail
        have hg : w.heap.size < wr.heap.size := World.block_lt_of_cell? _ _ hcell
        go_region_with (first
          | (go_at_call 62; refine (unhide H62 _).mono ?_; rintro e w2 ⟨ya, yn, yc, rfl, hy, hb2⟩; have HY := hide hy; clear hy; have hb2' : Below wr.heap.size wr w2 := (Below.refl _ _).drew.trans hb2; obtain ⟨hcell2, hfr2⟩ := box_later hb2' hg hcell hfr; clear hb2)
          | (go_at_call 45; refine (unhide H45 _ _ _ ((unhide HB).later hb2') (unhide HY)).mono ?_; rintro e w3 ⟨za, zn, zc, rfl, hz, hb3⟩; have HZ := hide hz; clear hz; have hb3' := hb2'.trans (hb3.mono hb2'.size); obtain ⟨hcell3, hfr3⟩ := box_later hb3' hg hcell hfr; clear hb3))
        all_goals (go_wp2; go_roundw; (case rel => exact ⟨k + 1, za, zn, zc, by omega, by go_num, World.cell?_setCell_same _ _ _ hcell3, by rw [World.frozen?_setCell]; exact hfr3, (unhide HZ).box _ hcell3 (no_int _ _ _), (hbl.trans (hb3'.mono hbl.size)).setCell (Nat.le_refl _) _⟩); (case measure => simp [intOf]; omega))
      · have hke : k = ss.length := by have := unhide HN; omega
        rw [hke] at HB
        have H51 := hide (fun W v (h : IsBig W v (sumK ss ss.length)) (h2 : Tab W) => tell_any v (sumK ss ss.length) 69 W h (by decide) (Nat.lt_of_lt_of_le (sumK_620 (unhide HA) _ (Nat.le_refl _) (by omega)) (pow_nine 620 69 (by decide))) h2)
        clear hke
        go_wp2_with (go_at_call 51; refine (unhide H51 _ _ (unhide HB) ((unhide HT).later hbl)).mono ?_; rintro e w2 ⟨rfl, hb2⟩)
        go_ret2
        exact ⟨rfl, hbl.trans (hb2.mono hbl.size)⟩
end Go.Proofs.YthcihkgellginaaDoor

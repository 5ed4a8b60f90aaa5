/- The document's own Root: the walk. -/
import Derived.Test.YtlodfcdckeiafaaDoorRefRoot
import Derived.Test.YtlodfcdckeiafaaDoorRefPow
import Derived.Deep.Cut
namespace Cub
theorem root_big (m n L : Nat) (h1 : 1 ≤ m) (hm : m < 10 ^ L) (hn : 1 ≤ n) (h4 : 4 * L ≤ n) : rootOf m n = 1 := by
  refine (root_eq hn (by rw [Nat.one_pow]; exact h1) ?_).symm
  have e1 : (10 : Nat) ^ L ≤ 16 ^ L := Nat.pow_le_pow_left (by decide) L
  have e2 : (16 : Nat) ^ L = 2 ^ (4 * L) := by rw [Nat.pow_mul]
  have e3 : (2 : Nat) ^ (4 * L) ≤ 2 ^ n := Nat.pow_le_pow_right (by decide) h4
  show m < 2 ^ n
  omega
theorem pow_small' (v n z K : Nat) (h : v < 10 ^ z) (hn : n ≠ 0) (hk : z * n ≤ K) : v ^ n < 10 ^ K := by
  have h2 : v ^ n < (10 ^ z) ^ n := Nat.pow_lt_pow_left h hn
  rw [← Nat.pow_mul] at h2
  exact Nat.lt_of_lt_of_le h2 (Nat.pow_le_pow_right (by decide) hk)
theorem cmpN_le {a b : Nat} (h : a ≤ b) : ¬ 0 < cmpN a b := by
  rcases Nat.lt_or_eq_of_le h with h | h
  · unfold cmpN; rw [if_pos h]; decide
  · subst h; unfold cmpN; rw [if_neg (Nat.lt_irrefl _), if_neg (Nat.lt_irrefl _)]; decide
theorem root_zero (n : Nat) (hn : 1 ≤ n) : rootOf 0 n = 0 := by
  have := root_self_le 0 n hn; omega
theorem all48 (P : List UInt8) (n : Nat) (hl : P.length = n) (h : ∀ j (hj : j < P.length), P[j] = 48) : P = List.replicate n 48 := by
  apply List.ext_getElem
  · simp [hl]
  · intro j h1 h2; rw [List.getElem_replicate]; exact h j h1
end Cub
namespace Go.Proofs.YtlodfcdckeiafaaDoor
open Go.RowKit

/-- How far a byte is below 9. -/
def toNine (w : World) (g i : Nat) : Nat := match w.cell? ⟨g, i, none⟩ with | some (.int _ z) => (57 - z).toNat | _ => 0
theorem toNine_of {w : World} {g i : Nat} {z : Int} {k : IntKind} (h : w.cell? ⟨g, i, none⟩ = some (.int k z)) : toNine w g i = (57 - z).toNat := by
  unfold toNine; rw [h]
theorem u8s_made (n : Nat) : (madeCells (Value.int .u8 0).cells (n * 1)).toList = Lib.byteCells (List.replicate n 0) := by
  rw [show (Value.int .u8 0).cells = #[Value.int .u8 0] from rfl, toList_madeCells_one]
  simp [Lib.byteCells]
theorem OwnB.of_row {w : World} {base g n : Nat} {l : List UInt8} (h : w.ownsRow base 5 1 (.slice (some ⟨g, 0, none⟩) n n) n (Lib.byteCells l)) : OwnB w g l := by
  obtain ⟨hx, h2⟩ := h
  rcases h2 with ⟨e, _⟩ | ⟨g', cap', cur, e, hb, hg, hcap, hmax, hsz, htk⟩
  · cases e
  · simp only [Value.slice.injEq, Option.some.injEq, Addr.mk.injEq] at e
    obtain ⟨⟨rfl, _⟩, _, rfl⟩ := e
    have e2 : cur.toList = Lib.byteCells l := by rw [← htk, List.take_of_length_le (by simp [hsz])]
    unfold OwnB
    rw [hg, ← e2]

theorem OwnB.digitAt {w : World} {g m n size i d : Nat} {P : List UInt8} (h : OwnB w g P) (hd : Cub.AtDigit m n size P i d) : w.cell? ⟨g, i, none⟩ = some (.int .u8 (48 + (d : Int))) := by
  have hi : i < P.length := by rw [hd.len]; exact hd.lt
  have hh := hd.here
  rw [List.getElem?_eq_getElem hi, Option.some.injEq] at hh
  have h9 := hd.nine
  rw [h.cell i hi, hh, Cub.toNat_dig d (by omega)]
  rfl

set_option maxRecDepth 100000 in
set_option maxHeartbeats 1000000 in
theorem refRoot_any (s : ByteArray) (n : Nat) (w : World) (hs : Cub.rightB s.data.toList = true) (hn : 1 ≤ n) (hn2 : n ≤ 4096) :
    Calls Tryd.prog 66 #[.string s, .int .i64 (n : Int)] w fun e w' => e = .returned (.string (nb (Cub.rootOf (val s) n))) ∧ Below w.heap.size w w' := by
  have HS := hide hs
  obtain ⟨hs1, hs6⟩ := right_pos hs
  obtain ⟨hnat, _⟩ := (Cub.rightB_iff _).1 hs
  have hV : val s < 10 ^ s.size := by have := Cub.dval_lt hnat.1; rw [list_len] at this; exact this
  have hn0 : ¬ n = 0 := by omega
  by_cases h4 : 4 * s.size ≤ n
  · have h4' : (4 : Int) * (s.size : Int) ≤ (n : Int) := by omega
    by_cases h0 : val s = 0
    · have e0 : s = ⟨#[48]⟩ := ByteArray.ext (Array.ext' (zero_text hs h0))
      have eR : nb (Cub.rootOf (val s) n) = ⟨#[48]⟩ := by rw [h0, Cub.root_zero n hn, nb_zero]
      rw [eR]
      have ht : (s.toList == [48]) = true := by rw [Lib.toList_data, e0]; rfl
      clear e0 eR h0 hV hnat hs
      go_enter Tryd.func66, Tryd.ntmps66
      go_wp2
      go_ret
      exact ⟨rfl, Below.refl _ _⟩
    · have eR : nb (Cub.rootOf (val s) n) = ⟨#[49]⟩ := by rw [Cub.root_big _ n s.size (by omega) hV hn h4, nb_one]
      rw [eR]
      have ht : (s.toList == [48]) = false := by
        cases hq : (s.toList == [48]) with
        | false => rfl
        | true =>
          rw [Lib.toList_data] at hq
          exact absurd (zero_val (eq_of_beq hq)) h0
      clear eR h0 hV hnat hs
      go_enter Tryd.func66, Tryd.ntmps66
      go_wp2
      go_ret
      exact ⟨rfl, Below.refl _ _⟩
  · have h4' : ¬ ((4 : Int) * (s.size : Int) ≤ (n : Int)) := by omega
    obtain ⟨z, hz⟩ : ∃ z, z = (s.size - 1) / n + 1 := ⟨_, rfl⟩
    have hzb : z ≤ 600 ∧ 1 ≤ z := by
      have h1 := Nat.div_le_self (s.size - 1) n
      generalize (s.size - 1) / n = d at *
      omega
    obtain ⟨hzb, hz1⟩ := hzb
    have HZ : Hid (((s.size : Int) - 1) / (n : Int) + 1 = (z : Int)) := by
      rw [hz]
      exact (by rw [show ((s.size : Int) - 1) = ((s.size - 1 : Nat) : Int) by omega, Int.natCast_add, Int.natCast_ediv]; rfl : ((s.size : Int) - 1) / (n : Int) + 1 = (((s.size - 1) / n + 1 : Nat) : Int))
    have hzn : s.size ≤ z * n ∧ z * n ≤ 3100 := by
      have h1 := Nat.div_add_mod (s.size - 1) n
      have h2 := Nat.mod_lt (s.size - 1) (show 0 < n by omega)
      have h3 : n * ((s.size - 1) / n) ≤ s.size - 1 := Nat.mul_div_le _ _
      rw [hz, Nat.add_mul, Nat.one_mul, Nat.mul_comm ((s.size - 1) / n) n]
      omega
    have HF0 := hide (Cub.FoundTo.start (val s) n z s.size hn hV hzn.1)
    have H64 := hide (fun (P : List UInt8) (W : World) (hP : P.length = z) (hd : Cub.digs P) => refPower_any (Cub.dval P) n 3101 W (by omega) (by decide) (by decide) (Cub.pow_small' (Cub.dval P) n z 3101 (by have h1 := Cub.dval_lt hd; rw [hP] at h1; exact h1) (by omega) (Nat.le_trans hzn.2 (by decide))))
    have H24 := hide (fun (V : Nat) (W : World) => by
      have h := compare_any (nb V) s W (Cub.isNat_dec V) hnat
      rw [nb_val] at h
      exact h)
    clear hz hzn hV hs hnat
    obtain ⟨i5, hi5, hz50, hz51, hz52⟩ := info_parts Tryd.info5
    go_enter Tryd.func66, Tryd.ntmps66
    go_upto_region 6 with fail
    rw [unhide HZ, IntWalk.wrap64_in (z : Int) ⟨by omega, by omega⟩]
    go_wp2_with (at_make; go_must (refine wpList_make_full _ rfl _ _ 54 rfl w.heap.size 5 i5 (.int .u8 0) 1 Tryd.underlying54 hi5 hz50 hz51 .i64 .i64 _ _ z rfl rfl (by omega) (by omega) (by rw [hz52]; omega) (by unfold maxLen; omega) (Nat.le_refl _) ?_; intro w3 hown3 hgrow3; rw [u8s_made] at hown3; have HO3 : Hid (OwnB w3 w.heap.size (List.replicate z 0)) := OwnB.of_row hown3; have hb3 : Below w.heap.size w w3 := (Below.refl _ _).grown hgrow3 (Nat.le_refl _) (fun k hk => by cases hk); clear hown3 hgrow3))
    go_loopw [7] (fun t wr => ∃ (i : Nat) (P : List UInt8), t = .int .i64 (i : Int) ∧ i ≤ z ∧ Hid (P.length = z) ∧ Hid (∀ j (hj : j < P.length), j < i → P[j] = 48) ∧ Hid (OwnB wr w.heap.size P) ∧ Below w.heap.size w wr) (fun t _ => z - (intOf t).toNat)
    case atStart => exact ⟨0, List.replicate z 0, rfl, Nat.zero_le _, List.length_replicate .., fun j _ h => absurd h (Nat.not_lt_zero _), HO3, hb3⟩
    case round =>
      obtain ⟨i, P, rfl, hi, HL, HP, HO, hbl⟩ := hrel
      clear hb3
      by_cases hiz : i < z
      · have hiP : i < P.length := by rw [unhide HL]; exact hiz
        have hco := (unhide HO).cell i hiP
        have hfo := (unhide HO).frozen i
        have HO' : Hid (OwnB (wr.setCell ⟨w.heap.size, i, none⟩ (.int .u8 48)) w.heap.size (P.set i 48)) := (unhide HO).set i 48 48 rfl
        have HL' : Hid ((P.set i 48).length = z) := by rw [List.length_set]; exact unhide HL
        have HP' : Hid (∀ j (hj : j < (P.set i 48).length), j < i + 1 → (P.set i 48)[j] = 48) := fun j hj h => by
          by_cases e : j = i
          · subst e; simp
          · rw [List.getElem_set_ne (by omega)]; exact unhide HP j (by rw [List.length_set] at hj; exact hj) (by omega)
        generalize P[i].toNat = c at *
        go_wp2
        go_roundw
        case rel => exact ⟨i + 1, P.set i 48, by go_num, by omega, HL', HP', HO', hbl.setCell (Nat.le_refl _) _⟩
        case measure => simp [intOf]; omega
      · have hie : i = z := by omega
        subst hie
        have HA : Hid (OwnB wr w.heap.size (List.replicate i 48)) := by
          have e := Cub.all48 P i (unhide HL) (fun j hj => unhide HP j hj (by have := unhide HL; omega))
          rw [← e]; exact unhide HO
        clear HO HP HL
        have hb1 := hbl
        go_wp2
        go_loopw [8] (fun t wq => ∃ (j : Nat) (P : List UInt8), t = .int .i64 (j : Int) ∧ j ≤ i ∧ Hid (Cub.FoundTo (val s) n i P j) ∧ Hid (OwnB wq w.heap.size P) ∧ Below w.heap.size w wq) (fun t _ => i - (intOf t).toNat)
        case atStart => exact ⟨0, _, rfl, Nat.zero_le _, HF0, HA, hb1⟩
        case round =>
          clear hb1 hbl
          obtain ⟨j, P, rfl, hj, HF, HO, hbl⟩ := hrel
          by_cases hji : j < i
          · have HD := hide ((unhide HF).digit hji)
            go_wp2
            go_loopw [37] (fun _ wv => ∃ (d : Nat) (R : List UInt8), d ≤ 9 ∧ Hid (Cub.AtDigit (val s) n i R j d) ∧ Hid (OwnB wv w.heap.size R) ∧ wv.cell? ⟨w.heap.size, j, none⟩ = some (.int .u8 (48 + (d : Int))) ∧ Below w.heap.size w wv) (fun _ wv => toNine wv w.heap.size j)
            case atStart => exact ⟨0, P, by omega, HD, HO, (unhide HO).digitAt (unhide HD), hbl⟩
            case round =>
              clear hbl HO HF HD
              obtain ⟨d, R, hd9, HD, HO, hcell, hbl⟩ := hrel
              have hfo := (unhide HO).frozen j
              by_cases hd : d < 9
              · have HO1 : Hid (OwnB (wr.setCell ⟨w.heap.size, j, none⟩ (.int .u8 (48 + (d : Int) + 1))) w.heap.size (R.set j (UInt8.ofNat (48 + (d + 1))))) := (unhide HO).set j (UInt8.ofNat (48 + (d + 1))) _ (by rw [Cub.toNat_dig (d + 1) (by omega)]; omega)
                have hb1 : Below w.heap.size w (wr.setCell ⟨w.heap.size, j, none⟩ (.int .u8 (48 + (d : Int) + 1))) := hbl.setCell (Nat.le_refl _) _
                have hc1 := World.cell?_setCell_same wr ⟨w.heap.size, j, none⟩ (.int .u8 (48 + (d : Int) + 1)) hcell
                have HC1 := hide hc1
                have hlt1 := World.block_lt_of_cell? _ _ hc1
                have HLT1 := hide hlt1
                clear hc1 hlt1
                have HR : Hid ((R.set j (UInt8.ofNat (48 + (d + 1)))).length = i ∧ Cub.digs (R.set j (UInt8.ofNat (48 + (d + 1))))) := ⟨by rw [List.length_set]; exact (unhide HD).len, Cub.digs_set (unhide HD).dig _ _ (by rw [Cub.toNat_dig (d + 1) (by omega)]; omega)⟩
                have HUP := hide (fun h => (unhide HD).up hd h)
                have HDN := hide (fun h => (unhide HD).done hd h)
                have HBK := hide (Cub.set_back R j (UInt8.ofNat (48 + (d + 1))) _ (unhide HD).here)
                generalize hR' : R.set j (UInt8.ofNat (48 + (d + 1))) = R' at *
                have H94 := hide (plain_any w.heap.size i R' _ (unhide HO1) (unhide HR).1.symm hz1 (by omega) (unhide HR).2)
                have H64' := hide (fun W => unhide H64 R' W (unhide HR).1 (unhide HR).2)
                clear hR'
                by_cases hgt : val s < Cub.dval R' ^ n
                · have H24' := hide (fun W => by
                    have h := unhide H24 (Cub.dval R' ^ n) W
                    rw [show Cub.dval s.data.toList = val s from rfl, Cub.cmpN_gt hgt] at h
                    exact h)
                  have HF' := hide (unhide HDN hgt)
                  generalize nb (Cub.dval R') = T1 at *
                  generalize nb (Cub.dval R' ^ n) = T2 at *
                  go_wp2_with (first
                    | (go_at_call 94; go_must (refine (unhide H94).mono ?_; rintro e w5 ⟨rfl, hw⟩; subst w5))
                    | (go_at_call 64; go_must (refine (unhide H64' _).mono ?_; rintro e w5 ⟨rfl, hb5⟩; have HO5 := hide ((unhide HO1).later hb5); have hb5' := hb1.trans (hb5.mono hb1.size); have hc5 := (hb5.cell (p := ⟨w.heap.size, j, none⟩) (unhide HLT1)).trans (unhide HC1); have hf5 := (unhide HO5).frozen j; clear hb5))
                    | (go_at_call 24; go_must (refine (unhide H24' _).mono ?_; rintro e w6 ⟨rfl, hw⟩; subst w6)))
                  have HO6 : Hid (OwnB (w5.setCell ⟨w.heap.size, j, none⟩ (.int .u8 (48 + (d : Int)))) w.heap.size R) := by
                    have h := (unhide HO5).set j (UInt8.ofNat (48 + d)) (48 + (d : Int)) (by rw [Cub.toNat_dig d (by omega)]; rfl)
                    rw [unhide HBK] at h
                    exact h
                  go_wp2
                  go_roundw
                  case rel => exact ⟨j + 1, R, by go_num, by omega, HF', HO6, hb5'.setCell (Nat.le_refl _) _⟩
                  case measure => simp [intOf]; omega
                · have H24' := hide (fun W => by
                    have h := unhide H24 (Cub.dval R' ^ n) W
                    rw [show Cub.dval s.data.toList = val s from rfl] at h
                    exact h)
                  have HF' := hide (unhide HUP (by omega))
                  have hcmp := Cub.cmpN_le (show Cub.dval R' ^ n ≤ val s by omega)
                  generalize Cub.cmpN (Cub.dval R' ^ n) (val s) = cc at *
                  generalize nb (Cub.dval R') = T1 at *
                  generalize nb (Cub.dval R' ^ n) = T2 at *
                  go_wp2_with (first
                    | (go_at_call 94; go_must (refine (unhide H94).mono ?_; rintro e w5 ⟨rfl, hw⟩; subst w5))
                    | (go_at_call 64; go_must (refine (unhide H64' _).mono ?_; rintro e w5 ⟨rfl, hb5⟩; have HO5 := hide ((unhide HO1).later hb5); have hb5' := hb1.trans (hb5.mono hb1.size); have hc5 := (hb5.cell (p := ⟨w.heap.size, j, none⟩) (unhide HLT1)).trans (unhide HC1); have hf5 := (unhide HO5).frozen j; clear hb5))
                    | (go_at_call 24; go_must (refine (unhide H24' _).mono ?_; rintro e w6 ⟨rfl, hw⟩; subst w6)))
                  go_roundw
                  case rel => exact ⟨d + 1, R', by omega, HF', HO5, (unhide HO5).digitAt (unhide HF'), hb5'⟩
                  case measure => rw [toNine_of hcell, toNine_of hc5]; omega
              · have hd9' : d = 9 := by omega
                subst hd9'
                have HF' := hide (unhide HD).nineDone
                go_wp2
                go_roundw
                case rel => exact ⟨j + 1, R, by go_num, by omega, HF', HO, hbl⟩
                case measure => simp [intOf]; omega
          · have hje : j = i := by omega
            subst hje
            have H94 := hide (plain_any w.heap.size j P _ (unhide HO) (unhide HF).len.symm hz1 (by omega) (unhide HF).dig)
            rw [(unhide HF).last hn] at H94
            go_wp2_with (go_at_call 94; go_must (refine (unhide H94).mono ?_; rintro e w5 ⟨rfl, hw⟩; subst w5))
            go_ret
            exact ⟨rfl, hbl⟩
end Go.Proofs.YtlodfcdckeiafaaDoor

/- The walk of NamesOrder: it answers true. -/
import Derived.Test.YtiooiacebgojiabDoorSortAll
import Derived.Test.YtiooiacebgojiabDoorSortMath2
import Derived.Test.YtiooiacebgojiabDoorAwake
namespace Go.Proofs.YtiooiacebgojiabDoor
open Go.RowKit

theorem refAhead_lt (a b : ByteArray) (w : World) (ha : a.size ≤ 1000000000000) (hb : b.size ≤ 1000000000000) (hT : Lib.Utf8Tabs 0 1 w) :
    Calls Tryd.prog 16 #[.string a, .string b] w fun e w' => e = .returned (.bool (ltC a b)) ∧ Below w.heap.size w w' := by
  refine (refAhead_any a b w ha hb hT).mono ?_
  rintro e w' ⟨⟨x, rfl, hx⟩, hb'⟩
  exact ⟨by rw [ordC_ahead a b hx]; rfl, hb'⟩
theorem own_spot {w : World} {base : Nat} {v : Value} {l : List ByteArray} (h : OwnS w base v l) : ∀ ad n c, v = .slice (some ad) n c → ad.spot = none := by
  intro ad n c e
  rcases Joins.ownsRow_forms (show w.ownsRow base 9 1 v l.length (strsV l) from h) with ⟨e0, _⟩ | ⟨g, cg, e0⟩
  · rw [e0] at e; cases e
  · rw [e0] at e
    simp only [Value.slice.injEq, Option.some.injEq] at e
    rw [← e.1]
theorem texts_same (va vb : Value) (x : List ByteArray) (w : World) (hx : RowS w va x) (hy : RowS w vb x) :
    Calls Tryd.prog 15 #[va, vb] w fun e w' => e = .returned (.bool true) ∧ Below w.heap.size w w' := by
  have h := texts_any va vb x x w hx hy
  rw [decide_eq_true rfl] at h
  exact h
theorem bytes_ne {x t : ByteArray} (h : ¬ x = t) : (x.toList == t.toList) = false := by
  rw [beq_eq_false_iff_ne, Lib.toList_data, Lib.toList_data]
  intro e
  exact h (ByteArray.ext (Array.toList_inj.1 e))

set_option maxRecDepth 100000 in
set_option maxHeartbeats 4000000 in
theorem order_law (v : Value) (ss : List ByteArray) (w : World) (hr : RowS w v ss) (hmax : ss.length ≤ 1048576) (hsz : ∀ s ∈ ss, s.size ≤ 1000000000000) (hT : Lib.Utf8Tabs 0 1 w) :
    Calls Tryd.prog 5 #[v] w fun e w' => e = .returned (.bool true) ∧ Below w.heap.size w w' := by
  have HR := hide hr
  have HT := hide hT
  have HZ := hide hsz
  have H1 := hide (sort_all v ss w hr (by omega) (fun s hs => by have := hsz s hs; omega) hT)
  have H2 : Hid (∀ W v1 ts, OwnS W w.heap.size v1 ts → ts.Perm ss → Below w.heap.size w W → Calls Tryd.prog 14 #[v1] W fun e w' => ∃ v' us, e = .returned v' ∧ OwnS w' W.heap.size v' us ∧ us.Perm ts ∧ Asc us ∧ Below W.heap.size W w') := fun W v1 ts hO hp hb =>
    sort_any v1 ts W (RowS.of_own hO) (own_spot hO) (by have := hp.length_eq; omega) (fun s hs => by have := hsz s (hp.mem_iff.1 hs); omega) (tabs_later hT hb)
  have HAW := hide (fun W hb => awake_any W (tabs_later (unhide HT) hb))
  obtain ⟨a, cap, rfl, hc, hm, hnn, hcells⟩ := hr
  obtain ⟨n, hn⟩ : ∃ n, n = ss.length := ⟨_, rfl⟩
  have hmx : n ≤ 1048576 := by omega
  have HN := hide hn
  rw [← hn] at hc HR H1 ⊢
  clear hcells hsz hT hmax hn
  go_enter Tryd.func5, Tryd.ntmps5
  go_upto_region 2 with (go_at_call 14; go_must (refine (unhide H1).mono ?_; rintro e w1 ⟨v1, ts, rfl, ho1, hp1, ha1, hb1⟩; have HO1 := hide ho1; have HP1 := hide (And.intro hp1 ha1); have HB1 := hide hb1; have hs1 := hb1.size; clear ho1 hp1 ha1 hb1 H1))
  obtain ⟨a3, c3, rfl, hc3, hm3, hn3, _⟩ := RowS.of_own (unhide HO1)
  have htl : ts.length = n := by rw [(unhide HP1).1.length_eq]; exact (unhide HN).symm
  rw [htl] at hc3 ⊢
  have HTL := hide htl
  have HO1' : Hid (OwnS w1 w.heap.size (.slice a3 n c3) ts) := by have h := unhide HO1; rw [htl] at h; exact h
  clear htl HO1
  have H2' := hide (unhide H2 w1 _ ts (unhide HO1') (unhide HP1).1 (unhide HB1))
  have en : ((n : Int) != (n : Int)) = false := by simp
  clear H2
  go_upto_region 5 with (first
    | (go_at_call 14; go_must (refine (unhide H2').mono ?_; rintro e w2 ⟨v2, us, rfl, ho2, hp2, ha2, hb2⟩; obtain rfl : ts = us := (asc_unique hp2 ha2 (unhide HP1).2).symm; have HT2 := hide (texts_same v2 _ ts w2 (RowS.of_own ho2) (RowS.of_own ((unhide HO1').later hb2))); have HB12 := hide hb2; have hs12 := hb2.size; clear ho2 hp2 ha2 hb2 H2'))
    | (go_at_call 15; go_must (refine (unhide HT2).mono ?_; rintro e w3 ⟨rfl, hb3⟩; have HB13 := hide ((unhide HB12).trans (hb3.mono hs12)); clear hb3 HT2)))
  have HRO := hide (RowS.of_own ((unhide HO1').later (unhide HB13)))
  have HB3 := hide ((unhide HB1).trans ((unhide HB13).mono hs1))
  have HRI := hide ((unhide HR).later (unhide HB3))
  have hs3 := (unhide HB3).size
  clear HO1' HB12 HB13 HB1 HR
  go_loopw [24] (fun v24 wr => ∃ i : Nat, v24 = .int .i64 (i : Int) ∧ i ≤ n ∧ Hid (Below w3.heap.size w3 wr)) (fun v24 _ => n - (intOf v24).toNat)
  case atStart => exact ⟨0, rfl, Nat.zero_le _, Below.refl _ _⟩
  case round =>
    obtain ⟨i, rfl, hi', HBQ⟩ := hrel
    obtain ⟨wq, hwq⟩ : ∃ wq, wq = wr := ⟨_, rfl⟩
    subst hwq
    have hbq := (unhide HBQ).size
    by_cases hin : i < n
    · have hil : i < ts.length := by have := unhide HTL; omega
      obtain ⟨s, hs⟩ : ∃ s, s = ts[i] := ⟨_, rfl⟩
      obtain ⟨a', c', e', hc', hm', hn', hcells'⟩ := unhide HRO
      simp only [Value.slice.injEq] at e'
      obtain ⟨rfl, hq', rfl⟩ := e'
      clear hq'
      have HCO : Hid (∀ k (h : k < ts.length), ∃ b o, a3 = some ⟨b, o, none⟩ ∧ b < w3.heap.size ∧ w3.cell? ⟨b, o + k, none⟩ = some (.string ts[k])) := hcells'
      have HCI : Hid (∀ k (h : k < ss.length), ∃ b o, a = some ⟨b, o, none⟩ ∧ b < w3.heap.size ∧ w3.cell? ⟨b, o + k, none⟩ = some (.string ss[k])) := by
        obtain ⟨a'', c'', e'', _, _, _, h⟩ := unhide HRI
        simp only [Value.slice.injEq] at e''
        obtain ⟨rfl, _, rfl⟩ := e''
        exact h
      obtain ⟨bo, oo, rfl, hbo, hcello⟩ := unhide HCO i hil
      obtain ⟨bi, oi, rfl, hbi, _⟩ := unhide HCI i (by have := unhide HN; omega)
      have cs : wq.cell? ⟨bo, oo + i, none⟩ = some (.string s) := by rw [(unhide HBQ).cell (p := ⟨bo, oo + i, none⟩) hbo, hcello, hs]
      have HS : Hid (s.size ≤ 1000000000000 ∧ ∀ x ∈ ts, x.size ≤ 1000000000000) := ⟨by rw [hs]; exact unhide HZ _ ((unhide HP1).1.mem_iff.1 (List.getElem_mem hil)), fun x hx => unhide HZ x ((unhide HP1).1.mem_iff.1 hx)⟩
      have HSI : Hid (∃ h : i < ts.length, s = ts[i]) := ⟨hil, hs⟩
      have hiI : (i : Int) < (n : Int) := by omega
      clear hcells' hcello hs hil hn' hm' hc'
      go_upto_region 9 with fail
      go_loopw [6, 31] (fun v6 v31 wz => ∃ (k : Nat) (z : Int), v31 = .int .i64 (k : Int) ∧ v6 = .int .i64 z ∧ k ≤ n ∧ -(k : Int) ≤ z ∧ z ≤ (k : Int) ∧ Hid (z = cntT ts s k - cntT ss s k) ∧ Hid (Below w3.heap.size w3 wz)) (fun _ v31 _ => n - (intOf v31).toNat)
      case atStart => exact ⟨0, 0, rfl, rfl, Nat.zero_le _, by omega, by omega, by simp [Hid, cntT_zero], HBQ⟩
      case round =>
        obtain ⟨k, z, rfl, rfl, hk, hz1, hz2, HZK, HBZ⟩ := hrel
        have hbz := (unhide HBZ).size
        by_cases hkn : k < n
        · have hkt : k < ts.length := by have := unhide HTL; omega
          have hks : k < ss.length := by have := unhide HN; omega
          obtain ⟨x, hx⟩ : ∃ x, x = ts[k] := ⟨_, rfl⟩
          obtain ⟨y, hy⟩ : ∃ y, y = ss[k] := ⟨_, rfl⟩
          obtain ⟨b1, o1, e1, hb1, hc1⟩ := unhide HCO k hkt
          obtain ⟨b2, o2, e2, hb2, hc2⟩ := unhide HCI k hks
          simp only [Option.some.injEq, Addr.mk.injEq] at e1 e2
          obtain ⟨rfl, rfl, _⟩ := e1
          obtain ⟨rfl, rfl, _⟩ := e2
          have cx : wr.cell? ⟨bo, oo + k, none⟩ = some (.string x) := by rw [(unhide HBZ).cell (p := ⟨bo, oo + k, none⟩) hbo, hc1, hx]
          have cy : wr.cell? ⟨bi, oi + k, none⟩ = some (.string y) := by rw [(unhide HBZ).cell (p := ⟨bi, oi + k, none⟩) hbi, hc2, hy]
          have hkI : (k : Int) < (n : Int) := by omega
          have HX1 : Hid (x = s → cntT ts s (k + 1) = cntT ts s k + 1) := fun e => cntT_yes ts s k hkt (by rw [← hx, e])
          have HX0 : Hid (¬ x = s → cntT ts s (k + 1) = cntT ts s k) := fun e => cntT_no ts s k hkt (by rw [← hx]; exact e)
          have HY1 : Hid (y = s → cntT ss s (k + 1) = cntT ss s k + 1) := fun e => cntT_yes ss s k hks (by rw [← hy, e])
          have HY0 : Hid (¬ y = s → cntT ss s (k + 1) = cntT ss s k) := fun e => cntT_no ss s k hks (by rw [← hy]; exact e)
          clear hc1 hc2 hx hy hkt hks hb1 hb2
          by_cases hxs : x = s
          · by_cases hys : y = s
            · have HZ2 : Hid (z = cntT ts s (k + 1) - cntT ss s (k + 1)) := by show _ = _; have h1 := unhide HX1 hxs; have h2 := unhide HY1 hys; have h3 := unhide HZK; omega
              clear HX1 HX0 HY1 HY0 HZK
              subst hxs
              subst hys
              go_wp2_with fail
              go_roundw
              case rel => exact ⟨k + 1, z, by go_num, by go_num, by omega, by omega, by omega, HZ2, HBZ⟩
              case measure => simp [intOf]; omega
            · have HZ2 : Hid (z + 1 = cntT ts s (k + 1) - cntT ss s (k + 1)) := by show _ = _; have h1 := unhide HX1 hxs; have h2 := unhide HY0 hys; have h3 := unhide HZK; omega
              clear HX1 HX0 HY1 HY0 HZK
              have ey := bytes_ne hys
              subst hxs
              clear hys
              go_wp2_with fail
              go_roundw
              case rel => exact ⟨k + 1, z + 1, by go_num, by go_num, by omega, by omega, by omega, HZ2, HBZ⟩
              case measure => simp [intOf]; omega
          · have ex := bytes_ne hxs
            by_cases hys : y = s
            · have HZ2 : Hid (z - 1 = cntT ts s (k + 1) - cntT ss s (k + 1)) := by show _ = _; have h1 := unhide HX0 hxs; have h2 := unhide HY1 hys; have h3 := unhide HZK; omega
              clear HX1 HX0 HY1 HY0 HZK hxs
              subst hys
              go_wp2_with fail
              go_roundw
              case rel => exact ⟨k + 1, z - 1, by go_num, by go_num, by omega, by omega, by omega, HZ2, HBZ⟩
              case measure => simp [intOf]; omega
            · have HZ2 : Hid (z = cntT ts s (k + 1) - cntT ss s (k + 1)) := by show _ = _; have h1 := unhide HX0 hxs; have h2 := unhide HY0 hys; have h3 := unhide HZK; omega
              have ey := bytes_ne hys
              clear HX1 HX0 HY1 HY0 HZK hxs hys
              go_wp2_with fail
              go_roundw
              case rel => exact ⟨k + 1, z, by go_num, by go_num, by omega, by omega, by omega, HZ2, HBZ⟩
              case measure => simp [intOf]; omega
        · have hke : n = k := by omega
          have hz0 : z = 0 := by
            have h := unhide HZK
            have hp := cntT_perm (unhide HP1).1 s
            rw [unhide HTL, ← unhide HN, hke] at hp
            omega
          subst hz0
          subst hke
          clear HZK hz1 hz2
          by_cases hi0 : i = 0
          · subst hi0
            go_wp2_with fail
            exact ⟨⟨0 + 1, by go_num, by omega, HBZ⟩, by simp [intOf]; omega⟩
          · obtain ⟨j, hj⟩ : ∃ j, i = j + 1 := ⟨i - 1, by omega⟩
            have hjl : j < ts.length := by have := unhide HTL; omega
            obtain ⟨x, hx⟩ : ∃ x, x = ts[j] := ⟨_, rfl⟩
            obtain ⟨b1, o1, e1, _, hc1⟩ := unhide HCO j hjl
            simp only [Option.some.injEq, Addr.mk.injEq] at e1
            obtain ⟨rfl, rfl, _⟩ := e1
            have cx : wr.cell? ⟨bo, oo + j, none⟩ = some (.string x) := by rw [(unhide HBZ).cell (p := ⟨bo, oo + j, none⟩) hbo, hc1, hx]
            have hlt : ltC s x = false := by
              obtain ⟨h, e⟩ := unhide HSI
              rw [e, hx]
              exact asc_at (unhide HP1).2 (by omega) h
            have H16 := hide (refAhead_lt s x wr (unhide HS).1 (by rw [hx]; exact (unhide HS).2 _ (List.getElem_mem hjl)) (tabs_later (tabs_later (unhide HT) (unhide HB3)) (unhide HBZ)))
            rw [hlt] at H16
            have hjI : (j : Int) < (n : Int) := by omega
            have hip : (0 : Int) < (i : Int) := by omega
            have hij : (i : Int) - 1 = (j : Int) := by omega
            clear hc1 hx hlt hjl hj
            go_wp2_with (go_at_call 16; go_must (refine (unhide H16).mono ?_; rintro e w5 ⟨rfl, hb5⟩; have HB5 := hide ((unhide HBZ).trans (hb5.mono hbz)); clear hb5 H16))
            go_roundw
            case rel => exact ⟨i + 1, by go_num, by omega, HB5⟩
            case measure => simp [intOf]; omega
    · have HB4 := hide ((unhide HB3).trans ((unhide HBQ).mono hs3))
      go_wp2_with (go_at_call 10; go_must (refine (unhide HAW wq (unhide HB4)).mono ?_; rintro e w7 ⟨rfl, hb7⟩; have HB7 := hide ((unhide HB4).trans (hb7.mono (unhide HB4).size)); clear hb7))
      go_ret
      exact ⟨rfl, unhide HB7⟩
end Go.Proofs.YtiooiacebgojiabDoor

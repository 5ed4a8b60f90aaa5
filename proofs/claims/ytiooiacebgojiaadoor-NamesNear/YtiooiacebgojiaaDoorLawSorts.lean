/- The walk of NamesSorts: it answers true. -/
import Derived.Test.YtiooiacebgojiaaDoorSort
import Derived.Test.YtiooiacebgojiaaDoorRefSort
import Derived.Test.YtiooiacebgojiaaDoorAwake
namespace Go.Proofs.YtiooiacebgojiaaDoor
open Go.RowKit

theorem own_spot {w : World} {base : Nat} {v : Value} {l : List ByteArray} (h : OwnS w base v l) : ∀ ad n c, v = .slice (some ad) n c → ad.spot = none := by
  intro ad n c e
  rcases Joins.ownsRow_forms (show w.ownsRow base 9 1 v l.length (strsV l) from h) with ⟨e0, _⟩ | ⟨g, cg, e0⟩
  · rw [e0] at e; cases e
  · rw [e0] at e
    simp only [Value.slice.injEq, Option.some.injEq] at e
    rw [← e.1]
theorem own_set {w : World} {base g n cap : Nat} {l : List ByteArray} (h : OwnS w base (.slice (some ⟨g, 0, none⟩) n cap) l) (hn : n = l.length) (i : Nat) (x : ByteArray) : OwnS (w.setCell ⟨g, i, none⟩ (.string x)) base (.slice (some ⟨g, 0, none⟩) n cap) (l.set i x) := by
  have h' : w.ownsRow base 9 1 (.slice (some ⟨g, 0, none⟩) n cap) n (strsV l) := by unfold OwnS at h; rw [← hn] at h; exact h
  have h2 := (World.ownsRow.stored h' i (.string x)).1
  unfold OwnS
  rw [List.length_set, ← hn]
  have e : (strsV l).set i (.string x) = strsV (l.set i x) := by simp [strsV, List.map_set]
  rw [e] at h2
  exact h2

theorem texts_same (va vb : Value) (x : List ByteArray) (w : World) (hx : RowS w va x) (hy : RowS w vb x) :
    Calls Tryd.prog 23 #[va, vb] w fun e w' => e = .returned (.bool true) ∧ Below w.heap.size w w' := by
  have h := texts_any va vb x x w hx hy
  rw [decide_eq_true rfl] at h
  exact h

set_option maxRecDepth 100000 in
set_option maxHeartbeats 2000000 in
theorem sorts_law (v : Value) (ss : List ByteArray) (w : World) (hr : RowS w v ss) (hmax : ss.length ≤ 8796093022208) (hsz : ∀ s ∈ ss, s.size ≤ 1000000000000) (hT : Lib.Utf8Tabs 0 1 w) :
    Calls Tryd.prog 6 #[v] w fun e w' => e = .returned (.bool true) ∧ Below w.heap.size w w' := by
  have HR := hide hr
  have HT := hide hT
  have HZ := hide hsz
  have H22 : Hid (∀ W v1, OwnS W w.heap.size v1 ss → Below w.heap.size w W → Calls Tryd.prog 22 #[v1] W fun e w' => ∃ v' ts, e = .returned v' ∧ OwnS w' W.heap.size v' ts ∧ ts.Perm ss ∧ Asc ts ∧ Below W.heap.size W w') := fun W v1 hO hb =>
    sort_any v1 ss W (RowS.of_own hO) (own_spot hO) hmax (fun s hs => by have := hsz s hs; omega) (tabs_later hT hb)
  have H24 : Hid (∀ W, Below w.heap.size w W → Calls Tryd.prog 24 #[v] W fun e w' => ∃ v' ts, e = .returned v' ∧ OwnS w' W.heap.size v' ts ∧ ts.Perm ss ∧ Asc ts ∧ Below W.heap.size W w') := fun W hb =>
    refSort_any v ss W (hr.later hb) hmax hsz (tabs_later hT hb)
  have HMX := hide hmax
  obtain ⟨a, cap, rfl, hc, hm, hnn, hcells⟩ := hr
  have hn0 : a = none → ss = [] := fun e => List.length_eq_zero_iff.1 (by have := hnn e; omega)
  have HNW : Hid (∀ ad, a = some ad → ∀ j u, (strsV ss)[j]? = some u → w.cell? (ad.add j) = some u) := fun ad e => by
    subst e; exact (unhide HR).news.2
  obtain ⟨n, hn⟩ : ∃ n, n = ss.length := ⟨_, rfl⟩
  have hmx : n ≤ 8796093022208 := by omega
  have HN := hide hn
  rw [← hn] at hc HR H24 ⊢
  obtain ⟨i0, hi, hz0, hz1, hz2⟩ := info_parts info9
  clear hcells hsz hT hmax
  have HAW := hide (fun W hb => awake_any W (tabs_later (unhide HT) hb))
  rcases a with _ | ad
  case' none =>
    obtain rfl := hnn rfl
    have h0 := hn0 rfl
    have hnz : n = 0 := by rw [hn, h0]; rfl
    subst hnz
    clear hn0 hnn hn hc HNW
    go_enter Tryd.func6, Tryd.ntmps6
    go_upto_region 3 with (at_builtin; go_must (refine wpList_append_own_none rfl _ _ 37 rfl w.heap.size 9 i0 1 under37 hi _ 0 [] rfl (World.ownsRow_nil _ _ _ _) rfl ?_))
    have HO1 : Hid (OwnS w w.heap.size (.slice none 0 0) ss) := by rw [h0]; exact World.ownsRow_nil _ _ _ _
    have HB1 : Hid (Below w.heap.size w w) := Below.refl _ _
    clear h0
    obtain ⟨w1, hw1⟩ : ∃ w1, w1 = w := ⟨_, rfl⟩
    have HO1' : Hid (OwnS w1 w.heap.size (.slice none 0 0) ss) := by rw [hw1]; exact unhide HO1
    have HB1' : Hid (Below w.heap.size w w1) := by rw [hw1]; exact unhide HB1
    rw [← hw1]
    clear hw1 HO1 HB1
  case' some =>
    clear hn0 hnn hn
    go_enter Tryd.func6, Tryd.ntmps6
    go_upto_region 3 with (at_builtin; go_must (refine wpList_append_own _ rfl _ _ 37 rfl w.heap.size 9 i0 (.string ⟨#[]⟩) 1 16 under37 hi hz0 hz1 hz2 rfl (by decide) (.slice none 0 0) 0 [] rfl (World.ownsRow_nil _ _ _ _) ad n cap (strsV ss) rfl (by rw [strsV_length, Nat.mul_one]; exact (unhide HN).symm) (unhide HNW ad rfl) (strsV_one ss) (by unfold maxLen; omega) (by omega) (Nat.le_refl _) ?_; intro v1 w1 hown1 hgrow1 hnil1; simp only [Nat.zero_add, List.nil_append] at hown1; have HO1' : Hid (OwnS w1 w.heap.size v1 ss) := (by show World.ownsRow _ _ _ _ _ _ _; rw [← unhide HN]; exact hown1); have HB1' : Hid (Below w.heap.size w w1) := (Below.refl _ _).grown hgrow1 (Nat.le_refl _) (fun k hk => by cases hk); clear hown1 hgrow1 hnil1))
    clear HNW
  all_goals (
    have hs1 := (unhide HB1').size
    go_upto_region 6 with (first
      | (go_at_call 22; go_must (refine (unhide H22 w1 _ (unhide HO1') (unhide HB1')).mono ?_; rintro e w2 ⟨v2, ts, rfl, ho2, hp2, ha2, hb2⟩; have HO2 := hide ho2; have HP2 := hide (And.intro hp2 ha2); have HB2 := hide ((unhide HB1').trans (hb2.mono hs1)); have HB12 := hide hb2; have hs2 := (unhide HB2).size; have hs12 := hb2.size; clear ho2 hp2 ha2 hb2))
      | (go_at_call 24; go_must (refine (unhide H24 w2 (unhide HB2)).mono ?_; rintro e w3 ⟨v3, us, rfl, ho3, hp3, ha3, hb3⟩; have hus : ts = us := (asc_unique (hp3.trans (unhide HP2).1.symm) ha3 (unhide HP2).2).symm; subst hus; have HO3 := hide ho3; have HB3 := hide ((unhide HB2).trans (hb3.mono hs2)); have HB13 := hide ((unhide HB12).trans (hb3.mono hs12)); have HO2' := hide ((unhide HO2).later hb3); have hs3 := (unhide HB3).size; have hs13 := (unhide HB13).size; clear ho3 hp3 ha3 hb3))
      | (go_at_call_of 23 v3; go_must (refine (texts_same _ _ ts w3 (RowS.of_own (unhide HO2')) (RowS.of_own (unhide HO3))).mono ?_; rintro e w4 ⟨rfl, hb4⟩; have HB4 := hide ((unhide HB3).trans (hb4.mono hs3)); have HB14 := hide ((unhide HB13).trans (hb4.mono hs13)); have HO4 := hide ((unhide HO2').later hb4); have hs4 := (unhide HB4).size; have hs14 := (unhide HB14).size; have HT4 := hide (texts_same _ _ ss w4 (RowS.of_own ((unhide HO1').later ((unhide HB14)))) ((unhide HR).later (unhide HB4))); clear hb4))
      | (go_at_call 23; go_must (refine (unhide HT4).mono ?_; rintro e w5 ⟨rfl, hb5⟩; have HB5 := hide ((unhide HB4).trans (hb5.mono hs4)); have HB15 := hide ((unhide HB14).trans (hb5.mono hs14)); have HO5 := hide ((unhide HO4).later hb5); clear hb5 HT4)))
    obtain ⟨a2, c2, rfl, hc2, hm2, _, _⟩ := RowS.of_own (unhide HO5)
    obtain ⟨m, hmm⟩ : ∃ m, m = ts.length := ⟨_, rfl⟩
    have hm1 : m ≤ 8796093022208 := by rw [hmm, (unhide HP2).1.length_eq]; exact unhide HMX
    have HO5' : Hid (OwnS w5 w1.heap.size (.slice a2 m c2) ts ∧ ts.length = m) := ⟨by have := unhide HO5; rw [← hmm] at this; exact this, hmm.symm⟩
    rw [← hmm] at hc2 ⊢
    clear hmm HO5 HO4 HO2' HO3 HO2 H22 H24 hs2 hs12 hs3 hs13 hs4 hs14 HB2 HB3 HB4 HB12 HB13 HB14 HP2
    go_wp2_with fail
    go_loopw [24] (fun v24 wr => ∃ (i : Nat) (xs : List ByteArray), v24 = .int .i64 (i : Int) ∧ i ≤ m ∧ Hid (OwnS wr w1.heap.size (.slice a2 m c2) xs ∧ xs.length = m) ∧ Hid (Below w1.heap.size w1 wr) ∧ Hid (Below w.heap.size w wr)) (fun v24 _ => m - (intOf v24).toNat)
    case atStart => exact ⟨0, ts, rfl, Nat.zero_le _, HO5', HB15, HB5⟩
    case round =>
      obtain ⟨i, xs, rfl, hi', HX, HBA, HBB⟩ := hrel
      by_cases him : i < m
      · have hrow : wr.ownsRow w1.heap.size 9 1 (.slice a2 m c2) m (strsV xs) := by have h := (unhide HX).1; unfold OwnS at h; rw [(unhide HX).2] at h; exact h
        obtain ⟨g, cg, e⟩ := Joins.ownsRow_form hrow (by omega)
        simp only [Value.slice.injEq, true_and] at e
        obtain ⟨rfl, rfl⟩ := e
        have hgl := hrow.lt g rfl
        have hix : i < xs.length := by have := (unhide HX).2; omega
        have cc : wr.cell? ⟨g, i, none⟩ = some (.string xs[i]) := by rw [hrow.cellAt i (by omega), strsV_get xs i hix]
        have cf : wr.frozen? ⟨g, i, none⟩ = false := hrow.frozenAt i
        have HX2 : Hid (∀ z : ByteArray, OwnS (wr.setCell ⟨g, i, none⟩ (.string z)) w1.heap.size (.slice (some ⟨g, 0, none⟩) m c2) (xs.set i z) ∧ (xs.set i z).length = m) := fun z => ⟨own_set (unhide HX).1 (unhide HX).2.symm i z, by rw [List.length_set]; exact (unhide HX).2⟩
        have HBA2 : Hid (∀ z : ByteArray, Below w1.heap.size w1 (wr.setCell ⟨g, i, none⟩ (.string z))) := fun z => (unhide HBA).setCell (by exact hgl.1) _
        have HBB2 : Hid (∀ z : ByteArray, Below w.heap.size w (wr.setCell ⟨g, i, none⟩ (.string z))) := fun z => (unhide HBB).setCell (by exact Nat.le_trans hs1 hgl.1) _
        have hiI : (i : Int) < (m : Int) := by omega
        generalize xs[i] = xi at *
        clear hrow hgl hix HX HBA HBB
        go_wp2_with fail
        go_roundw
        case rel => exact ⟨i + 1, _, by go_num, by omega, unhide HX2 _, unhide HBA2 _, unhide HBB2 _⟩
        case measure => simp [intOf]; omega
      · have hbs := (unhide HBB).size
        have H23 := hide (texts_same _ _ ss wr (RowS.of_own ((unhide HO1').later (unhide HBA))) ((unhide HR).later (unhide HBB)))
        go_wp2_with (first
          | (go_at_call 23; go_must (refine (unhide H23).mono ?_; rintro e w6 ⟨rfl, hb6⟩; have HB6 := hide ((unhide HBB).trans (hb6.mono hbs)); clear hb6))
          | (go_at_call 15; go_must (refine (unhide HAW w6 (unhide HB6)).mono ?_; rintro e w7 ⟨rfl, hb7⟩; have HB7 := hide ((unhide HB6).trans (hb7.mono (unhide HB6).size)); clear hb7)))
        go_ret
        exact ⟨rfl, unhide HB7⟩)
end Go.Proofs.YtiooiacebgojiaaDoor

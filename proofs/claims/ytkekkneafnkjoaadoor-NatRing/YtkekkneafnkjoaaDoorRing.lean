/- The walk of NatRing: it answers true, whatever it is handed. -/
import Derived.Test.YtkekkneafnkjoaaDoorRingA
import Derived.Deep.Cut
namespace Go.Proofs.YtkekkneafnkjoaaDoor
open Go.RowKit

set_option maxRecDepth 100000 in
set_option maxHeartbeats 2000000 in
/-- A text that is not right: Prod refuses. -/
theorem natRing_no (a b c : ByteArray) (w : World) (ha : a.size ≤ maxLen) (hb : b.size ≤ maxLen) (hc : c.size ≤ maxLen) (h : allRight [a, b, c] = false) (htab : Tab w) :
    Calls Tryd.prog 8 #[.string a, .string b, .string c] w fun e w' => e = .returned (.bool true) ∧ Below w.heap.size w w' := by
  have HT := hide htab
  have C36 := hide (prod3_no a b c w ha hb hc h)
  have Ra := hide (fun W => refRight_any a W ha)
  have Rb := hide (fun W => refRight_any b W hb)
  have Rc := hide (fun W => refRight_any c W hc)
  have h' : (Cub.rightB a.data.toList && (Cub.rightB b.data.toList && (Cub.rightB c.data.toList && true))) = false := h
  have BB := hide (Below.alloc (Below.refl w.heap.size w) (Nat.le_refl _) (.cells #[.string a, .string b, .string c] 9))
  clear htab ha hb hc h
  cases h1 : Cub.rightB a.data.toList with
  | false =>
    simp only [h1] at Ra
    clear h' h1
    go_enter Tryd.func8, Tryd.ntmps8
    go_wp2_with (first
      | (go_at_call_of 12 a; refine (unhide Ra _).mono ?_; rintro e w' ⟨rfl, rfl⟩)
      | (go_at_call 36; refine (unhide C36).mono ?_; rintro e w2 ⟨rfl, rfl⟩)
      | (go_at_call 16; refine (known_any _ ((unhide HT).later (unhide BB))).mono ?_; rintro e w9 ⟨rfl, hc9⟩))
    all_goals go_ret
    all_goals exact ⟨rfl, (unhide BB).trans (hc9.mono (unhide BB).size)⟩
  | true =>
    cases h2 : Cub.rightB b.data.toList with
    | false =>
      simp only [h1] at Ra
      simp only [h2] at Rb
      clear h' h1 h2
      go_enter Tryd.func8, Tryd.ntmps8
      go_wp2_with (first
        | (go_at_call_of 12 a; refine (unhide Ra _).mono ?_; rintro e w' ⟨rfl, rfl⟩)
        | (go_at_call_of 12 b; refine (unhide Rb _).mono ?_; rintro e w' ⟨rfl, rfl⟩)
        | (go_at_call 36; refine (unhide C36).mono ?_; rintro e w2 ⟨rfl, rfl⟩)
        | (go_at_call 16; refine (known_any _ ((unhide HT).later (unhide BB))).mono ?_; rintro e w9 ⟨rfl, hc9⟩))
      all_goals go_ret
      all_goals exact ⟨rfl, (unhide BB).trans (hc9.mono (unhide BB).size)⟩
    | true =>
      have h3 : Cub.rightB c.data.toList = false := by
        rw [h1, h2] at h'; simpa using h'
      simp only [h1] at Ra
      simp only [h2] at Rb
      simp only [h3] at Rc
      clear h' h1 h2 h3
      go_enter Tryd.func8, Tryd.ntmps8
      go_wp2_with (first
        | (go_at_call_of 12 a; refine (unhide Ra _).mono ?_; rintro e w' ⟨rfl, rfl⟩)
        | (go_at_call_of 12 b; refine (unhide Rb _).mono ?_; rintro e w' ⟨rfl, rfl⟩)
        | (go_at_call_of 12 c; refine (unhide Rc _).mono ?_; rintro e w' ⟨rfl, rfl⟩)
        | (go_at_call 36; refine (unhide C36).mono ?_; rintro e w2 ⟨rfl, rfl⟩)
        | (go_at_call 16; refine (known_any _ ((unhide HT).later (unhide BB))).mono ?_; rintro e w9 ⟨rfl, hc9⟩))
      all_goals go_ret
      all_goals exact ⟨rfl, (unhide BB).trans (hc9.mono (unhide BB).size)⟩

/-- One of the law's calls, told of every world. -/
def Says (f : Nat) (x y z : ByteArray) : Prop := ∀ W, Tab W → Calls Tryd.prog f #[.string x, .string y] W fun e w' => e = .returned (.string z) ∧ Below W.heap.size W w'
def Full (s : ByteArray) : Prop := s.toList.isEmpty = false

set_option maxRecDepth 100000 in
set_option maxHeartbeats 4000000 in
theorem ring_core (a b c s t p q r u : ByteArray) (k : Int) (w : World) (htab : Tab w)
    (ra : ∀ W, Calls Tryd.prog 12 #[.string a] W fun e w' => e = .returned (.bool true) ∧ w' = W)
    (rb : ∀ W, Calls Tryd.prog 12 #[.string b] W fun e w' => e = .returned (.bool true) ∧ w' = W)
    (rc : ∀ W, Calls Tryd.prog 12 #[.string c] W fun e w' => e = .returned (.bool true) ∧ w' = W)
    (cab : Says 39 a b s) (cba : Says 39 b a s) (mab : Says 40 a b p) (mba : Says 40 b a p) (cbc : Says 39 b c t) (mbc : Says 40 b c q) (mac : Says 40 a c r) (cac : Says 39 a c u)
    (d1 : Full s → Full t → ∃ x, Says 39 s c x ∧ Says 39 a t x)
    (d2 : Full p → Full q → ∃ x, Says 40 p c x ∧ Says 40 a q x)
    (d3 : Full t → Full p → Full r → ∃ x, Says 40 a t x ∧ Says 39 p r x)
    (d4 : Full s → ∀ W, Tab W → Calls Tryd.prog 19 #[.string s, .string b] W fun e w' => e = .returned (.tuple #[.string a, .int .i64 0]) ∧ Below W.heap.size W w')
    (d5 : ∀ W, Calls Tryd.prog 23 #[.string a, .string b] W fun e w' => e = .returned (.tuple #[.int .i64 k, .int .i64 0]) ∧ Below W.heap.size W w')
    (d6 : Full t → Full u → ∀ W, Calls Tryd.prog 23 #[.string u, .string t] W fun e w' => e = .returned (.tuple #[.int .i64 k, .int .i64 0]) ∧ Below W.heap.size W w') :
    Calls Tryd.prog 8 #[.string a, .string b, .string c] w fun e w' => e = .returned (.bool true) ∧ Below w.heap.size w w' := by
  have HT := hide htab
  have Ra := hide ra
  have Rb := hide rb
  have Rc := hide rc
  have Cab := hide cab
  have Cba := hide cba
  have Mab := hide mab
  have Mba := hide mba
  have Cbc := hide cbc
  have Mbc := hide mbc
  have Mac := hide mac
  have Cac := hide cac
  have D1 := hide d1
  have D2 := hide d2
  have D3 := hide d3
  have D4 := hide d4
  have D5 := hide d5
  have D6 := hide d6
  clear htab ra rb rc cab cba mab mba cbc mbc mac cac d1 d2 d3 d4 d5 d6
  go_enter Tryd.func8, Tryd.ntmps8
  go_wp2_with (first
    | (go_at_call_of 12 a; refine (unhide Ra _).mono ?_; rintro e w' ⟨rfl, hw⟩; subst w')
    | (go_at_call_of 12 b; refine (unhide Rb _).mono ?_; rintro e w' ⟨rfl, hw⟩; subst w')
    | (go_at_call_of 12 c; refine (unhide Rc _).mono ?_; rintro e w' ⟨rfl, hw⟩; subst w'))
  refine (unhide Cab _ (unhide HT)).mono ?_
  rintro e w1 ⟨rfl, hb1⟩
  go_wp2_with fail
  refine (unhide Cba _ ((unhide HT).later hb1)).mono ?_
  rintro e w2 ⟨rfl, hc2⟩; have hb2 := hb1.trans (hc2.mono hb1.size); clear hc2
  go_wp2_with fail
  refine (unhide Mab _ ((unhide HT).later hb2)).mono ?_
  rintro e w3 ⟨rfl, hc3⟩; have hb3 := hb2.trans (hc3.mono hb2.size); clear hc3
  go_wp2_with fail
  refine (unhide Mba _ ((unhide HT).later hb3)).mono ?_
  rintro e w4 ⟨rfl, hc4⟩; have hb4 := hb3.trans (hc4.mono hb3.size); clear hc4
  go_wp2_with fail
  refine (known_any _ ((unhide HT).later hb4)).mono ?_
  rintro e w5 ⟨rfl, hc5⟩; have hb5 := hb4.trans (hc5.mono hb4.size); clear hc5
  go_wp2_with fail
  refine (unhide Cbc _ ((unhide HT).later hb5)).mono ?_
  rintro e w6 ⟨rfl, hc6⟩; have hb6 := hb5.trans (hc6.mono hb5.size); clear hc6
  go_upto_region 8 with fail
  go_cut [85] from 21 (fun s85 wc => s85 = .bool false ∧ Below w.heap.size w wc)
  case first =>
    cases hs : s.toList.isEmpty with
    | true =>
      go_wp2_with fail
      go_meet
      exact ⟨rfl, hb6⟩
    | false =>
      cases ht : t.toList.isEmpty with
      | true =>
        go_wp2_with fail
        go_meet
        exact ⟨rfl, hb6⟩
      | false =>
        obtain ⟨x, X1, X2⟩ := unhide D1 hs ht
        have H1 := hide X1
        have H2 := hide X2
        clear X1 X2
        go_wp2_with fail
        refine (unhide H1 _ ((unhide HT).later hb6)).mono ?_
        rintro e w7 ⟨rfl, hc7⟩; have hb7 := hb6.trans (hc7.mono hb6.size); clear hc7
        go_wp2_with fail
        refine (unhide H2 _ ((unhide HT).later hb7)).mono ?_
        rintro e w8 ⟨rfl, hc8⟩; have hb8 := hb7.trans (hc8.mono hb7.size); clear hc8
        go_wp2_with fail
        go_meet
        exact ⟨rfl, hb8⟩
  case rest =>
    obtain ⟨rfl, hd0⟩ := hcut
    clear hb1 hb2 hb3 hb4 hb5 hb6
    go_wp2_with fail
    refine (unhide Mab _ ((unhide HT).later hd0)).mono ?_
    rintro e v1 ⟨rfl, hc1⟩; have hd1 := hd0.trans (hc1.mono hd0.size); clear hc1
    go_wp2_with fail
    refine (unhide Mbc _ ((unhide HT).later hd1)).mono ?_
    rintro e v2 ⟨rfl, hc2⟩; have hd2 := hd1.trans (hc2.mono hd1.size); clear hc2
    go_upto_region 12 with fail
    go_cut [106] from 21 (fun s106 wc => s106 = .bool false ∧ Below w.heap.size w wc)
    case first =>
      cases hp : p.toList.isEmpty with
      | true =>
        go_wp2_with fail
        go_meet
        exact ⟨rfl, hd2⟩
      | false =>
        cases hq : q.toList.isEmpty with
        | true =>
          go_wp2_with fail
          go_meet
          exact ⟨rfl, hd2⟩
        | false =>
          obtain ⟨x, X1, X2⟩ := unhide D2 hp hq
          have H1 := hide X1
          have H2 := hide X2
          clear X1 X2
          go_wp2_with fail
          refine (unhide H1 _ ((unhide HT).later hd2)).mono ?_
          rintro e w7 ⟨rfl, hc7⟩; have hb7 := hd2.trans (hc7.mono hd2.size); clear hc7
          go_wp2_with fail
          refine (unhide H2 _ ((unhide HT).later hb7)).mono ?_
          rintro e w8 ⟨rfl, hc8⟩; have hb8 := hb7.trans (hc8.mono hb7.size); clear hc8
          go_wp2_with fail
          go_meet
          exact ⟨rfl, hb8⟩
    case rest =>
      obtain ⟨rfl, he0⟩ := hcut
      clear hd0 hd1 hd2
      go_wp2_with fail
      refine (unhide Mac _ ((unhide HT).later he0)).mono ?_
      rintro e x1 ⟨rfl, hc1⟩; have he1 := he0.trans (hc1.mono he0.size); clear hc1
      go_upto_region 15 with fail
      go_cut [128] from 21 (fun s128 wc => s128 = .bool false ∧ Below w.heap.size w wc)
      case first =>
        cases ht : t.toList.isEmpty with
        | true =>
          go_wp2_with fail
          go_meet
          exact ⟨rfl, he1⟩
        | false =>
          cases hp : p.toList.isEmpty with
          | true =>
            go_wp2_with fail
            go_meet
            exact ⟨rfl, he1⟩
          | false =>
            cases hr : r.toList.isEmpty with
            | true =>
              go_wp2_with fail
              go_meet
              exact ⟨rfl, he1⟩
            | false =>
              obtain ⟨x, X1, X2⟩ := unhide D3 ht hp hr
              have H1 := hide X1
              have H2 := hide X2
              clear X1 X2
              go_wp2_with fail
              refine (unhide H1 _ ((unhide HT).later he1)).mono ?_
              rintro e w7 ⟨rfl, hc7⟩; have hb7 := he1.trans (hc7.mono he1.size); clear hc7
              go_wp2_with fail
              refine (unhide H2 _ ((unhide HT).later hb7)).mono ?_
              rintro e w8 ⟨rfl, hc8⟩; have hb8 := hb7.trans (hc8.mono hb7.size); clear hc8
              go_wp2_with fail
              go_meet
              exact ⟨rfl, hb8⟩
      case rest =>
        obtain ⟨rfl, hf0⟩ := hcut
        clear he0 he1
        cases hs : s.toList.isEmpty with
        | true =>
          go_wp2_with fail
          all_goals go_ret
          all_goals exact ⟨rfl, hf0⟩
        | false =>
          have H4 := hide (unhide D4 hs)
          go_wp2_with fail
          refine (unhide H4 _ ((unhide HT).later hf0)).mono ?_
          rintro e y1 ⟨rfl, hc1⟩; have hf1 := hf0.trans (hc1.mono hf0.size); clear hc1
          go_wp2_with fail
          refine (unhide D5 _).mono ?_
          rintro e y2 ⟨rfl, hc2⟩; have hf2 := hf1.trans (hc2.mono hf1.size); clear hc2
          cases ht : t.toList.isEmpty with
          | true =>
            go_wp2_with fail
            all_goals go_ret
            all_goals exact ⟨rfl, hf2⟩
          | false =>
            go_wp2_with fail
            refine (unhide Cac _ ((unhide HT).later hf2)).mono ?_
            rintro e y3 ⟨rfl, hc3⟩; have hf3 := hf2.trans (hc3.mono hf2.size); clear hc3
            cases hu : u.toList.isEmpty with
            | true =>
              go_wp2_with fail
              all_goals go_ret
              all_goals exact ⟨rfl, hf3⟩
            | false =>
              have H6 := hide (unhide D6 ht hu)
              go_wp2_with fail
              refine (unhide H6 _).mono ?_
              rintro e y4 ⟨rfl, hc4⟩; have hf4 := hf3.trans (hc4.mono hf3.size); clear hc4
              go_wp2_with fail
              all_goals go_ret
              all_goals exact ⟨rfl, hf4⟩

theorem says_add (m n r : Nat) (hm : m < 10 ^ 600) (hn : n < 10 ^ 600) (hr : r = m + n) : Says 39 (tb m) (tb n) (tb r) := fun W h => addN m n r W hm hn hr h
theorem says_mul (m n r : Nat) (hm : m < 10 ^ 600) (hn : n < 10 ^ 600) (hr : r = m * n) : Says 40 (tb m) (tb n) (tb r) := fun W h => mulN m n r W hm hn hr h
theorem full_lt (n : Nat) (h : Full (tb n)) : n < 10 ^ 600 := Decidable.byContradiction fun k => by
  have e := tb_empty n k
  unfold Full at h
  rw [e] at h
  cases h
theorem cmpN_add (x y z : Nat) : Cub.cmpN (x + z) (y + z) = Cub.cmpN x y := by
  unfold Cub.cmpN
  simp only [Nat.add_lt_add_iff_right]
theorem natRing_ok (A B C : Nat) (w : World) (hA : A < 10 ^ 600) (hB : B < 10 ^ 600) (hC : C < 10 ^ 600) (htab : Tab w) :
    Calls Tryd.prog 8 #[.string (tb A), .string (tb B), .string (tb C)] w fun e w' => e = .returned (.bool true) ∧ Below w.heap.size w w' := by
  have right (n : Nat) (h : n < 10 ^ 600) : ∀ W, Calls Tryd.prog 12 #[.string (tb n)] W fun e w' => e = .returned (.bool true) ∧ w' = W := fun W => by
    have k := refRight_any (tb n) W (tb_size n h)
    rw [(tb_right n h).1] at k
    exact k
  exact ring_core (tb A) (tb B) (tb C) (tb (A + B)) (tb (B + C)) (tb (A * B)) (tb (B * C)) (tb (A * C)) (tb (A + C)) (Cub.cmpN A B) w htab
    (right A hA) (right B hB) (right C hC)
    (says_add A B _ hA hB rfl) (says_add B A _ hB hA (Nat.add_comm A B)) (says_mul A B _ hA hB rfl) (says_mul B A _ hB hA (Nat.mul_comm A B))
    (says_add B C _ hB hC rfl) (says_mul B C _ hB hC rfl) (says_mul A C _ hA hC rfl) (says_add A C _ hA hC rfl)
    (fun h1 h2 => ⟨tb (A + B + C), says_add _ _ _ (full_lt _ h1) hC rfl, says_add _ _ _ hA (full_lt _ h2) (Nat.add_assoc A B C)⟩)
    (fun h1 h2 => ⟨tb (A * B * C), says_mul _ _ _ (full_lt _ h1) hC rfl, says_mul _ _ _ hA (full_lt _ h2) (Nat.mul_assoc A B C)⟩)
    (fun h1 h2 h3 => ⟨tb (A * (B + C)), says_mul _ _ _ hA (full_lt _ h1) rfl, says_add _ _ _ (full_lt _ h2) (full_lt _ h3) (Nat.mul_add A B C)⟩)
    (fun h1 W hW => subN (A + B) B A W (full_lt _ h1) hB rfl hW)
    (fun W => cmpTN A B _ W hA hB rfl)
    (fun h1 h2 W => cmpTN (A + C) (B + C) _ W (full_lt _ h2) (full_lt _ h1) (cmpN_add A B C).symm)

theorem natRing_walk (a b c : ByteArray) (w : World) (ha : a.size ≤ maxLen) (hb : b.size ≤ maxLen) (hc : c.size ≤ maxLen) (htab : Tab w) :
    Calls Tryd.prog 8 #[.string a, .string b, .string c] w fun e w' => e = .returned (.bool true) ∧ Below w.heap.size w w' := by
  cases h : allRight [a, b, c] with
  | false => exact natRing_no a b c w ha hb hc h htab
  | true =>
    have h' : (Cub.rightB a.data.toList && (Cub.rightB b.data.toList && (Cub.rightB c.data.toList && true))) = true := h
    rw [Bool.and_eq_true, Bool.and_eq_true, Bool.and_eq_true] at h'
    obtain ⟨A, hA, rfl⟩ := tb_of h'.1
    obtain ⟨B, hB, rfl⟩ := tb_of h'.2.1
    obtain ⟨C, hC, rfl⟩ := tb_of h'.2.2.1
    exact natRing_ok A B C w hA hB hC htab
end Go.Proofs.YtkekkneafnkjoaaDoor

/- prefix.cuts: a word's beginnings that are prefixes. -/
import Derived.Test.YtpoapffbpgnkpaaGreatDoorUIdx
import Derived.Test.YtpoapffbpgnkpaaGreatDoorOnly
namespace Go.Proofs.YtpoapffbpgnkpaaGreatDoor
open Go.RowKit Go.Maps Go.ChangeMaps Go.WideMaps
def tbN (bi : Bool) : Nat := if bi then 1024 else 10
theorem made_any : ∀ k, k < 32 → Made (tbl k).f ((tbN (tbl k).bi : Nat) : Int) (tbl k).ex
  | 0, _ => deca_made
  | 1, _ => hecto_made
  | 2, _ => kilo_made
  | 3, _ => mega_made
  | 4, _ => giga_made
  | 5, _ => tera_made
  | 6, _ => peta_made
  | 7, _ => exa_made
  | 8, _ => zetta_made
  | 9, _ => yotta_made
  | 10, _ => ronna_made
  | 11, _ => quetta_made
  | 12, _ => deci_made
  | 13, _ => centi_made
  | 14, _ => milli_made
  | 15, _ => micro_made
  | 16, _ => nano_made
  | 17, _ => pico_made
  | 18, _ => femto_made
  | 19, _ => atto_made
  | 20, _ => zepto_made
  | 21, _ => yocto_made
  | 22, _ => ronto_made
  | 23, _ => quecto_made
  | 24, _ => kibi_made
  | 25, _ => mebi_made
  | 26, _ => gibi_made
  | 27, _ => tebi_made
  | 28, _ => pebi_made
  | 29, _ => exbi_made
  | 30, _ => zebi_made
  | 31, _ => yobi_made
  | n + 32, h => absurd h (by omega)
theorem enter_made : ∀ k, k < 32 → ∀ W, (callFunc (tbl k).f #[]).run Tryz.prog W = .ok (.enter (tbl k).f #[]) W
  | 0, _, W => by kernel_rfl
  | 1, _, W => by kernel_rfl
  | 2, _, W => by kernel_rfl
  | 3, _, W => by kernel_rfl
  | 4, _, W => by kernel_rfl
  | 5, _, W => by kernel_rfl
  | 6, _, W => by kernel_rfl
  | 7, _, W => by kernel_rfl
  | 8, _, W => by kernel_rfl
  | 9, _, W => by kernel_rfl
  | 10, _, W => by kernel_rfl
  | 11, _, W => by kernel_rfl
  | 12, _, W => by kernel_rfl
  | 13, _, W => by kernel_rfl
  | 14, _, W => by kernel_rfl
  | 15, _, W => by kernel_rfl
  | 16, _, W => by kernel_rfl
  | 17, _, W => by kernel_rfl
  | 18, _, W => by kernel_rfl
  | 19, _, W => by kernel_rfl
  | 20, _, W => by kernel_rfl
  | 21, _, W => by kernel_rfl
  | 22, _, W => by kernel_rfl
  | 23, _, W => by kernel_rfl
  | 24, _, W => by kernel_rfl
  | 25, _, W => by kernel_rfl
  | 26, _, W => by kernel_rfl
  | 27, _, W => by kernel_rfl
  | 28, _, W => by kernel_rfl
  | 29, _, W => by kernel_rfl
  | 30, _, W => by kernel_rfl
  | 31, _, W => by kernel_rfl
  | n + 32, h, _ => absurd h (by omega)
def CV.cells (c : CV) : List Value := [.int .i64 (c.p : Int), .bool c.bi, .string c.nm, .string c.sy]
def flatC (l : List CV) : List Value := l.flatMap CV.cells
theorem flatC_snoc (l : List CV) (c : CV) : flatC (l ++ [c]) = flatC l ++ c.cells := by simp [flatC]
def restN (s : ByteArray) (k : Nat) : ByteArray := ⟨(Lib.trimPrefix s.data.toList (tbl k).nm.data.toList).toArray⟩
def beginsN (s : ByteArray) (k : Nat) : Bool := Lib.hasPrefix s.data.toList (tbl k).nm.data.toList
def cutN (s : ByteArray) (k : Nat) : List CV := if beginsN s k && !(restN s k).toList.isEmpty then [⟨k, (tbl k).bi, restN s k, ⟨#[]⟩⟩] else []
def cutsN (s : ByteArray) (k : Nat) : List CV := (List.range k).flatMap (cutN s)
theorem cutsN_succ (s : ByteArray) (k : Nat) : cutsN s (k + 1) = cutsN s k ++ cutN s k := by simp [cutsN, List.range_succ, List.flatMap_append]
theorem cutsN_len (s : ByteArray) (k : Nat) : (cutsN s k).length ≤ k := by
  induction k with
  | zero => simp [cutsN]
  | succ k ih =>
    rw [cutsN_succ, List.length_append]
    have : (cutN s k).length ≤ 1 := by unfold cutN; split <;> simp
    omega
theorem info85 : (Tryz.prog.info? 85).map (fun i => (i.zero, i.size, i.bytes)) = some (some (.agg #[.int .i64 0, .bool false, .string ⟨#[]⟩, .string ⟨#[]⟩]), 4, 48) := by kernel_rfl
theorem under47 : Tryz.prog.underlying 47 = some (.slice 85) := by kernel_rfl
theorem news4 (W : World) (a b c d : Value) : ∀ j u, [a, b, c, d][j]? = some u → (W.alloc (.cells #[a, b, c, d] 85)).cell? ((⟨W.heap.size, 0, none⟩ : Addr).add j) = some u := by
  intro j u hu
  rcases j with _ | _ | _ | _ | j <;> simp at hu
  all_goals (subst hu; simp [Addr.add, go_sem])
theorem one4 (a : Int) (b : Bool) (c d : ByteArray) : ∀ u ∈ [Value.int .i64 a, .bool b, .string c, .string d], u.oneCell' = true := by
  intro u hu
  simp only [List.mem_cons, List.not_mem_nil, or_false] at hu
  rcases hu with rfl | rfl | rfl | rfl <;> rfl
theorem sym_look (s : ByteArray) (hs : s.size ≤ maxLen) {w : World} {M : Nat} (h2 : w.ownsMap Tryz.prog 9 (plainElem Tryz.prog 3) M 34 symAll) : (Instr.lookup 88 (.map (some M)) (.string s) true).run Tryz.prog w = .ok (.tuple #[.int .i64 (symC s), .bool (symH s)]) w := by
  obtain ⟨v, ps, hrun, hv⟩ := h2.look_ok (string_keyed Tryz.underlying9) under49 (zero3 w) (plainElem_int Tryz.underlying3 (by decide)) (keyOf_string_mk Tryz.underlying9 hs)
  obtain ⟨c, rfl, hc, _⟩ := plainElem_int_inv Tryz.underlying3 hv
  have hc1 := congrArg Prod.fst hc
  have e : symC s = c := by unfold symC; rw [show symAll.atKey (.string s.data.toList) (.lit (.int .i64 0)) = .lit (.int .i64 c) from hc1]
  rw [hrun, e]
  rfl
theorem row_ne_map {H : Type} {w : World} {P : Program} {k : TypeId} {R : Value → Option (DataW H × List MemPlace)} {b m base e sz n : Nat} {D : DataW H} {v : Value} {xs : List Value} (h : w.ownsRow base e sz v n xs) (hm : w.ownsMap P k R b m D) : some b ≠ v.ownBlock := by
  intro he
  obtain ⟨hx, h2⟩ := h
  obtain ⟨es, clock, hb, _⟩ := hm
  rcases h2 with ⟨e1, _⟩ | ⟨g, cap, cur, e1, hbs, hg, _⟩
  · rw [e1] at he; simp [Value.ownBlock] at he
  · rw [e1] at he
    have : b = g := by simpa [Value.ownBlock] using he
    rw [this, hg] at hb
    cases hb
theorem map_later {H : Type} {w w' : World} {P : Program} {k : TypeId} {R : Value → Option (DataW H × List MemPlace)} {b m : Nat} {D : DataW H} (hm : w.ownsMap P k R b m D) (hb : Below w.heap.size w w') : w'.ownsMap P k R b m D := by
  obtain ⟨es, clock, hh, r⟩ := hm
  exact ⟨es, clock, (hb.block b (Array.getElem?_eq_some_iff.1 hh).1).trans hh, r⟩
def symN (t : ByteArray) : Nat := (symC t).toNat
def cutS (s : ByteArray) (e : Nat) : List CV := if e = 0 then [] else if symH (s.extract 0 e) = true then [⟨symN (s.extract 0 e), (tbl (symN (s.extract 0 e))).bi, ⟨#[]⟩, s.extract e s.size⟩] else []
def cutsS (s : ByteArray) (e : Nat) : List CV := (List.range e).flatMap (cutS s)
theorem cutsS_succ (s : ByteArray) (k : Nat) : cutsS s (k + 1) = cutsS s k ++ cutS s k := by simp [cutsS, List.range_succ, List.flatMap_append]
theorem cutsS_len (s : ByteArray) (k : Nat) : (cutsS s k).length ≤ k := by
  induction k with
  | zero => simp [cutsS]
  | succ k ih =>
    rw [cutsS_succ, List.length_append]
    have : (cutS s k).length ≤ 1 := by unfold cutS; split <;> (try split) <;> simp
    omega
def cutsE (s : ByteArray) (e : Nat) : List CV := cutsN s 32 ++ cutsS s e
theorem cutsE_one (s : ByteArray) : cutsE s 1 = cutsN s 32 := by simp [cutsE, cutsS, cutS]
theorem cutsE_succ (s : ByteArray) (e : Nat) : cutsE s (e + 1) = cutsE s e ++ cutS s e := by simp [cutsE, cutsS_succ]
theorem cutsE_len (s : ByteArray) (e : Nat) : (cutsE s e).length ≤ 32 + e := by
  unfold cutsE
  rw [List.length_append]
  have := cutsN_len s 32; have := cutsS_len s e
  omega
set_option maxRecDepth 100000 in
set_option maxHeartbeats 4000000 in
theorem cuts_any (s : ByteArray) (hs : s.size ≤ 80) (hs0 : 0 < s.size) (w : World) : Calls Tryz.prog 16 #[.string s] w fun r w' => ∃ v, r = .returned v ∧ w'.ownsRow (w.heap.size + 1) 85 4 v (cutsE s s.size).length (flatC (cutsE s s.size)) ∧ Below w.heap.size w w' := by
  obtain ⟨W1, hW1⟩ : ∃ W1, W1 = w.alloc (.cells rowsArr 51) := ⟨_, rfl⟩
  have HRO : Hid (Calls Tryz.prog 17 #[] w fun r w' => r = .returned (.slice (some ⟨w.heap.size, 0, none⟩) 32 32) ∧ w' = W1) := by rw [hW1]; exact rows_any w
  have HW1 := hide hW1
  have hzz : W1.heap.size = w.heap.size + 1 := by rw [hW1]; simp
  have HZ := hide hzz
  clear hzz
  have HB1 : Hid (Below w.heap.size w W1) := by rw [hW1]; exact (Below.refl _ _).alloc (Nat.le_refl _) _
  obtain ⟨i0, hi, hz0, hz1, hz2⟩ := info_parts info85
  clear hW1
  go_enter Tryz.func16, Tryz.ntmps16
  go_wp2_with (go_at_call 17; go_must (refine (unhide HRO).mono ?_; rintro e w1 ⟨rfl, rfl⟩))
  go_loopw [3, 16] (fun s3 s16 wr => ∃ (k : Nat) (v : Value), k ≤ 32 ∧ v = s3 ∧ s16 = .int .i64 (k : Int) ∧ Hid (wr.ownsRow (w.heap.size + 1) 85 4 v (cutsN s k).length (flatC (cutsN s k))) ∧ Hid (Below (w.heap.size + 1) w1 wr)) (fun _ s16 _ => 32 - (intOf s16).toNat)
  case atStart => exact ⟨0, _, by omega, rfl, rfl, World.ownsRow_nil _ _ _ _, Below.refl _ _⟩
  case round =>
    obtain ⟨k, v, hk, rfl, rfl, HO, HB⟩ := hrel
    have HBW : Hid (Below w.heap.size w wr) := (unhide HB1).trans ((unhide HB).mono (by omega))
    have HSZ : Hid (w.heap.size + 1 ≤ wr.heap.size) := by have h1 := (unhide HB).size; have h2 := unhide HZ; show _ ≤ _; omega
    by_cases hk32 : k < 32
    · have hkI : (k : Int) < 32 := by omega
      have hk0 : (0 : Int) ≤ (k : Int) := by omega
      obtain ⟨c0, c1, c2⟩ := rows_at w wr (by have h := unhide HB; rw [unhide HW1] at h; exact h) k hk32
      have HCP := hide (fun W => Tryz.strings_CutPrefix s (tbl k).nm W)
      have HM := hide (made_any k hk32)
      unfold Made at HM
      have hen := enter_made k hk32
      have HBI := hide (fun W => binary_any (tbN (tbl k).bi) (tbl k).ex (tbl k).bi W (by cases (tbl k).bi <;> decide))
      have HN := hide (cutsN_succ s k)
      have HL : Hid ((cutsN s k).length ≤ 32) := Nat.le_trans (cutsN_len s k) hk
      unfold cutN at HN
      rw [show (⟨(Lib.trimPrefix s.data.toList (tbl k).nm.data.toList).toArray⟩ : ByteArray) = restN s k from rfl, show Lib.hasPrefix s.data.toList (tbl k).nm.data.toList = beginsN s k from rfl] at HCP
      generalize restN s k = rest at *
      generalize tbN (tbl k).bi = tb at *
      generalize (tbl k).nm = nm at *
      generalize (tbl k).sy = sy at *
      generalize (tbl k).f = f at *
      generalize (tbl k).bi = bi at *
      generalize (tbl k).ex = ex at *
      by_cases hbr : (beginsN s k && !rest.toList.isEmpty) = true
      · rw [if_pos hbr] at HN
        have hb1 : beginsN s k = true := by simp at hbr; exact hbr.1
        have hb2 : rest.toList.isEmpty = false := by simp at hbr; simpa using hbr.2
        rw [hb1] at HCP
        clear hbr hb1
        go_upto_region 8 with (go_at_call 37; go_must (refine (unhide HCP _).mono ?_; rintro e wc ⟨rfl, rfl⟩))
        obtain ⟨V2, hV2⟩ : ∃ V2, V2 = wr.alloc (.cells #[.string nm, .string sy, .func (.func f) #[] #[]] 51) := ⟨_, rfl⟩
        have hb2 : Below wr.heap.size wr V2 := by rw [hV2]; exact (Below.refl _ _).alloc (Nat.le_refl _) _
        have HP2 : Hid (FBox V2 wr.heap.size (.string nm) (.string sy) (.func (.func f) #[] #[])) := by rw [hV2]; exact ⟨by simp [go_sem], by simp [go_sem], by simp [go_sem], by simp [go_sem], by simp [go_sem], by simp [go_sem]⟩
        have HO2 : Hid (V2.ownsRow (w.heap.size + 1) 85 4 v (cutsN s k).length (flatC (cutsN s k))) := own_later (unhide HO) hb2
        have HB2 : Hid (Below (w.heap.size + 1) w1 V2) := (unhide HB).trans (hb2.mono (unhide HSZ))
        rw [← hV2]
        clear hV2 hb2 c0 c1 c2 HO HB HBW
        generalize wr.heap.size = g3 at *
        have t0 := (unhide HP2).c0; have t1 := (unhide HP2).c1; have t2 := (unhide HP2).c2
        go_wp2_with (first
          | (go_at_call 38; go_must (refine (unhide HBI _).mono ?_; rintro e wt ⟨rfl, hbt⟩; have HO4 : Hid (wt.ownsRow (w.heap.size + 1) 85 4 v (cutsN s k).length (flatC (cutsN s k))) := own_later (unhide HO3) hbt; have HB4 : Hid (Below (w.heap.size + 1) w1 wt) := (unhide HB3).trans (hbt.mono (by have h1 := (unhide HB3).size; have h2 := unhide HZ; omega)); clear hbt))
          | (at_builtin; refine wpList_append_own _ rfl _ _ 47 rfl (w.heap.size + 1) 85 i0 (.agg #[.int .i64 0, .bool false, .string ⟨#[]⟩, .string ⟨#[]⟩]) 4 48 under47 hi hz0 hz1 hz2 rfl (by decide) _ _ _ rfl (own_later (unhide HO4) ((Below.refl _ _).alloc (Nat.le_refl _) _)) ⟨wt.heap.size, 0, none⟩ 1 1 [.int .i64 (k : Int), .bool bi, .string rest, .string ⟨#[]⟩] rfl rfl (news4 _ _ _ _ _) (one4 _ _ _ _) (by have h := unhide HL; unfold maxLen; omega) (by have h := unhide HL; omega) (by have h1 := (unhide HB4).size; have h2 := unhide HZ; simp; omega) ?_; intro v2 wa hown hgrow hnil; have HOW := hide hown; have HB5 : Hid (Below (w.heap.size + 1) w1 wa) := ((unhide HB4).alloc (by have h1 := (unhide HB4).size; have h2 := unhide HZ; omega) _).grown hgrow (by have h1 := (unhide HB4).size; have h2 := unhide HZ; simp; omega) (fun j hj => ((unhide HO4).lt j hj).1); clear hown hgrow hnil)
          | (refine (unhide HM _).mono ?_; rintro e wm ⟨rfl, hbm⟩; have HO3 : Hid (wm.ownsRow (w.heap.size + 1) 85 4 v (cutsN s k).length (flatC (cutsN s k))) := own_later (unhide HO2) hbm; have HB3 : Hid (Below (w.heap.size + 1) w1 wm) := (unhide HB2).trans (hbm.mono (by have h1 := (unhide HB2).size; have h2 := unhide HZ; omega)); clear hbm t0 t1 t2))
        go_roundw
        case rel =>
          refine ⟨k + 1, v2, by omega, rfl, by go_num, ?_, HB5⟩
          have h := unhide HOW
          rw [show flatC (cutsN s k) ++ [Value.int .i64 (k : Int), .bool bi, .string rest, .string ⟨#[]⟩] = flatC (cutsN s (k + 1)) from by rw [unhide HN, flatC_snoc]; rfl] at h
          rw [show (cutsN s k).length + 1 = (cutsN s (k + 1)).length from by rw [unhide HN]; simp] at h
          exact h
        case measure => simp [intOf]; omega
      · rw [if_neg hbr, List.append_nil] at HN
        have HRL : Hid (∀ W, W = wr.alloc (.cells #[.string nm, .string sy, .func (.func f) #[] #[]] 51) → W.ownsRow (w.heap.size + 1) 85 4 v (cutsN s (k + 1)).length (flatC (cutsN s (k + 1))) ∧ Below (w.heap.size + 1) w1 W) := fun W hW => by
          have hb2 : Below wr.heap.size wr W := by rw [hW]; exact (Below.refl _ _).alloc (Nat.le_refl _) _
          rw [unhide HN]
          exact ⟨own_later (unhide HO) hb2, (unhide HB).trans (hb2.mono (unhide HSZ))⟩
        cases hb1 : beginsN s k
        · rw [hb1] at HCP
          clear hbr hb1
          go_wp2_with (go_at_call 37; go_must (refine (unhide HCP _).mono ?_; rintro e wc ⟨rfl, rfl⟩))
          go_roundw
          case rel => exact ⟨k + 1, v, by omega, rfl, by go_num, (unhide HRL _ rfl).1, (unhide HRL _ rfl).2⟩
          case measure => simp [intOf]; omega
        · have hb2 : rest.toList.isEmpty = true := by rw [hb1] at hbr; simpa using hbr
          rw [hb1] at HCP
          clear hbr hb1
          go_wp2_with (go_at_call 37; go_must (refine (unhide HCP _).mono ?_; rintro e wc ⟨rfl, rfl⟩))
          go_roundw
          case rel => exact ⟨k + 1, v, by omega, rfl, by go_num, (unhide HRL _ rfl).1, (unhide HRL _ rfl).2⟩
          case measure => simp [intOf]; omega
    · have hkI : ¬ (k : Int) < 32 := by omega
      have HK : Hid (k = 32) := by show _ = _; omega
      go_wp2_with (go_at_call 39; go_must (refine (symbols_any _).mono ?_; rintro e w3 ⟨rfl, hom, hb3⟩; have HOM := hide hom; have HB3 := hide hb3; clear hom hb3))
      have HRW : Hid (RowsIn wr w.heap.size) := fun k hk => by
        obtain ⟨c0, c1, c2⟩ := rows_at w wr (by have h := unhide HB; rw [unhide HW1] at h; exact h) k hk
        exact ⟨c0, c1, c2⟩
      have HRW3 : Hid (RowsIn w3 w.heap.size) := (unhide HRW).later (unhide HB3) (by have h := unhide HSZ; omega)
      have HOR : Hid (w3.ownsRow (w.heap.size + 1) 85 4 v (cutsE s 1).length (flatC (cutsE s 1))) := by
        have h := own_later (unhide HO) (unhide HB3)
        rw [unhide HK] at h
        rw [cutsE_one]
        exact h
      have HBW3 : Hid (Below w.heap.size w w3 ∧ w.heap.size + 1 ≤ w3.heap.size) := ⟨(unhide HBW).trans ((unhide HB3).mono (unhide HBW).size), Nat.le_trans (unhide HSZ) (unhide HB3).size⟩
      clear HRW HO HB HBW HSZ HB3 HRO HW1
      generalize wr.heap.size = M at *
      go_loopw [3, 10] (fun s3 s10 wr => ∃ (j : Nat) (v : Value), 1 ≤ j ∧ j ≤ s.size ∧ v = s3 ∧ s10 = .int .i64 (j : Int) ∧ Hid (wr.ownsRow (w.heap.size + 1) 85 4 v (cutsE s j).length (flatC (cutsE s j))) ∧ Hid (wr.ownsMap Tryz.prog 9 (plainElem Tryz.prog 3) M 34 symAll) ∧ Hid (RowsIn wr w.heap.size) ∧ Hid (Below w.heap.size w wr ∧ w.heap.size + 1 ≤ wr.heap.size)) (fun _ s10 _ => s.size - (intOf s10).toNat)
      case atStart => exact ⟨1, _, by omega, by omega, rfl, rfl, HOR, HOM, HRW3, HBW3⟩
      case round =>
        clear HOR HOM HRW3 HBW3
        obtain ⟨j, v', hj1, hj2, rfl, rfl, HO, HOM, HRW, HB⟩ := hrel
        by_cases hjs : j < s.size
        · have hjI : (j : Int) < (s.size : Int) := by omega
          have hj0 : (0 : Int) ≤ (j : Int) := by omega
          have hlk := sym_look (s.extract 0 j) (by rw [ByteArray.size_extract]; unfold maxLen; omega) (unhide HOM)
          have HN := hide (cutsE_succ s j)
          unfold cutS at HN
          rw [if_neg (by omega)] at HN
          by_cases hH : symH (s.extract 0 j) = true
          · obtain ⟨n, hn32, hC, _⟩ := find_yes (s.extract 0 j) hH
            rw [if_pos hH, show symN (s.extract 0 j) = n from by unfold symN; rw [hC]; rfl] at HN
            rw [hH, hC] at hlk
            clear hH hC
            have hnI : (n : Int) < 32 := by omega
            have hn0 : (0 : Int) ≤ (n : Int) := by omega
            have c2 := (unhide HRW n hn32).c2
            have HM := hide (made_any n hn32)
            unfold Made at HM
            have hen := enter_made n hn32
            have HBI := hide (fun W => binary_any (tbN (tbl n).bi) (tbl n).ex (tbl n).bi W (by cases (tbl n).bi <;> decide))
            have HL : Hid ((cutsE s j).length ≤ 112) := by have h := cutsE_len s j; show _ ≤ _; omega
            generalize tbN (tbl n).bi = tb at *
            generalize (tbl n).f = f at *
            generalize (tbl n).bi = bi at *
            generalize (tbl n).ex = ex at *
            have HGT : Hid (w.heap.size < wr.heap.size) := by have h := (unhide HB).2; show _ < _; omega
            have HC2 := hide c2
            have HNB : Hid (∀ o, some (⟨w.heap.size, o, none⟩ : Addr).block ≠ v'.ownBlock) := fun o e => by have h := ((unhide HO).lt _ e.symm).1; have h2 : w.heap.size + 1 ≤ w.heap.size := h; omega
            have HL1 : Hid ((cutsE s j).length + 1 ≤ maxLen) := by have h := unhide HL; show _ ≤ _; unfold maxLen; omega
            have HL2 : Hid (((cutsE s j).length + 1) * 48 ≤ 140737488355328) := by have h := unhide HL; show _ ≤ _; omega
            have HKA : Hid (∀ (Wt wa : World) (O : Obj), Wt.cell? ⟨w.heap.size, n * 3 + 2, none⟩ = some (.func (.func f) #[] #[]) → w.heap.size < Wt.heap.size → World.grownBy (Wt.alloc O) wa v'.ownBlock → wa.cell? ⟨w.heap.size, n * 3 + 2, none⟩ = some (.func (.func f) #[] #[])) := fun Wt wa O h1 h2 h3 => h3.cell ((((Below.refl Wt.heap.size Wt).alloc (Nat.le_refl _) O).cell (p := ⟨w.heap.size, n * 3 + 2, none⟩) h2).trans h1) (unhide HNB _)
            go_upto_region 16 with fail
            go_region_held3 (fun w' => w'.cell? ⟨w.heap.size, n * 3 + 2, none⟩ = some (.func (.func f) #[] #[])) (first | assumption | exact (((Below.refl wt.heap.size wt).alloc (Nat.le_refl _) _).cell (p := ⟨w.heap.size, n * 3 + 2, none⟩) (unhide HGT3)).trans c2 | exact unhide HKA _ _ _ c2 (unhide HGT3) (unhide HGR) | (simp [go_sem, *]; done)) ((first
              | (go_at_call 38; go_must (refine (unhide HBI _).mono ?_; rintro e wt ⟨rfl, hbt⟩; have HB3 : Hid (Below wr.heap.size wr wt) := (unhide HB2).trans (hbt.mono (unhide HB2).size); have HGT3 : Hid (w.heap.size < wt.heap.size) := Nat.lt_of_lt_of_le (unhide HGT) (unhide HB3).size; clear hbt c2; have c2 : wt.cell? ⟨w.heap.size, n * 3 + 2, none⟩ = some (.func (.func f) #[] #[]) := ((unhide HB3).cell (p := ⟨w.heap.size, n * 3 + 2, none⟩) (unhide HGT)).trans (unhide HC2)))
              | (refine step_append_own rfl _ _ 47 rfl (w.heap.size + 1) 85 i0 (.agg #[.int .i64 0, .bool false, .string ⟨#[]⟩, .string ⟨#[]⟩]) 4 48 under47 hi hz0 hz1 hz2 rfl (by decide) _ (cutsE s j).length (flatC (cutsE s j)) rfl (own_later (own_later (unhide HO) (unhide HB3)) ((Below.refl _ _).alloc (Nat.le_refl _) _)) ⟨wt.heap.size, 0, none⟩ 1 1 [.int .i64 (n : Int), .bool bi, .string ⟨#[]⟩, .string (s.extract j s.size)] rfl rfl (news4 _ _ _ _ _) (one4 _ _ _ _) (unhide HL1) (unhide HL2) (by have h1 := unhide HGT3; simp; omega) ?_; intro v2 wa hown hgrow; have HOW := hide hown; have HGR := hide hgrow; clear hown hgrow)
              | (refine (unhide HM _).mono ?_; rintro e wm ⟨rfl, hbm⟩; have HB2 : Hid (Below wr.heap.size wr wm) := (Below.refl _ _).drew.trans (hbm.mono (Below.refl wr.heap.size wr).drew.size); clear hbm c2; have c2 : wm.cell? ⟨w.heap.size, n * 3 + 2, none⟩ = some (.func (.func f) #[] #[]) := ((unhide HB2).cell (p := ⟨w.heap.size, n * 3 + 2, none⟩) (unhide HGT)).trans (unhide HC2))))
            have HGW : Hid (World.grownBy (wt.alloc (.cells #[.int .i64 (n : Int), .bool bi, .string ⟨#[]⟩, .string (s.extract j s.size)] 85)) wa v'.ownBlock) := unhide HGR
            have HBT : Hid (Below w.heap.size w wt) := (unhide HB).1.trans ((unhide HB3).mono (unhide HB).1.size)
            have HB4 : Hid (Below w.heap.size w wa) := ((unhide HBT).alloc (unhide HBT).size _).grown (unhide HGW) (by have h := (unhide HBT).size; simp; omega) (fun i hi => by have h := ((unhide HO).lt i hi).1; omega)
            have HSZ4 : Hid (w.heap.size + 1 ≤ wa.heap.size) := by have h1 := (unhide HGW).size; have h2 := unhide HGT3; simp at h1; show _ ≤ _; omega
            have HOMt := hide (map_later (unhide HOM) (unhide HB3))
            have HOM4 : Hid (wa.ownsMap Tryz.prog 9 (plainElem Tryz.prog 3) M 34 symAll) := ((unhide HOMt).alloc _).kept (unhide HGW) (row_ne_map (unhide HO) (unhide HOM))
            have HRW4 : Hid (RowsIn wa w.heap.size) := fun k hk => by
              have h1 := (unhide HRW k hk).later (unhide HB3) (unhide HGT)
              have h2 := h1.later ((Below.refl wt.heap.size wt).alloc (Nat.le_refl _) (.cells #[.int .i64 (n : Int), .bool bi, .string ⟨#[]⟩, .string (s.extract j s.size)] 85)) (unhide HGT3)
              exact ⟨(unhide HGW).cell h2.c0 (unhide HNB 0), (unhide HGW).cell h2.c1 (unhide HNB 0), (unhide HGW).cell h2.c2 (unhide HNB 0)⟩
            clear HGR
            go_wp2_with fail
            go_roundw
            case rel =>
              refine ⟨j + 1, v2, by omega, by omega, rfl, by go_num, ?_, HOM4, HRW4, ⟨unhide HB4, unhide HSZ4⟩⟩
              have h := unhide HOW
              rw [show flatC (cutsE s j) ++ [Value.int .i64 (n : Int), .bool bi, .string ⟨#[]⟩, .string (s.extract j s.size)] = flatC (cutsE s (j + 1)) from by rw [unhide HN, flatC_snoc]; rfl] at h
              rw [show (cutsE s j).length + 1 = (cutsE s (j + 1)).length from by rw [unhide HN]; simp] at h
              exact h
            case measure => simp [intOf]; omega
          · have hH' : symH (s.extract 0 j) = false := by simpa using hH
            rw [if_neg hH, List.append_nil] at HN
            rw [hH'] at hlk
            generalize symC (s.extract 0 j) = cc at *
            clear hH hH'
            go_wp2_with fail
            go_roundw
            case rel =>
              refine ⟨j + 1, v', by omega, by omega, rfl, by go_num, ?_, HOM, HRW, HB⟩
              rw [unhide HN]
              exact HO
            case measure => simp [intOf]; omega
        · have hjI : ¬ (j : Int) < (s.size : Int) := by omega
          have HJ : Hid (j = s.size) := by show _ = _; omega
          go_wp2_with fail
          go_ret
          refine ⟨v', rfl, ?_, (unhide HB).1⟩
          have h := unhide HO
          rw [unhide HJ] at h
          exact h
end Go.Proofs.YtpoapffbpgnkpaaGreatDoor

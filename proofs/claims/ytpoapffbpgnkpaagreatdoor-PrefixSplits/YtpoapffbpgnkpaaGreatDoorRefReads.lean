/- The document's takes and reads. -/
import Derived.Test.YtpoapffbpgnkpaaGreatDoorCuts
import Derived.Test.YtpoapffbpgnkpaaGreatDoorReads
namespace Go.Proofs.YtpoapffbpgnkpaaGreatDoor
open Go.RowKit
/-- What Split answers of readings. -/
def resV (e : Int) (p i : Nat) : Value := if e = 0 then .tuple #[preV p, .int .i64 (i : Int), .int .i64 0] else .tuple #[zeroP, .int .i64 0, .int .i64 e]
/-- What Split answers. -/
def SplitR (S : Nat → Nat → Prop) (s : ByteArray) (us : Nat → UV) (n : Nat) (r : Value) : Prop :=
  ((s.size = 0 ∨ 80 < s.size) ∧ r = .tuple #[zeroP, .int .i64 0, .int .i64 3])
  ∨ (0 < s.size ∧ s.size ≤ 80 ∧ ∃ k : Nat, k < n ∧ FirstU (plainU s us) n (k : Int) ∧ r = .tuple #[zeroP, .int .i64 (k : Int), .int .i64 0])
  ∨ (0 < s.size ∧ s.size ≤ 80 ∧ FirstU (plainU s us) n (-1) ∧ ∃ e p i, ROut S e p i ∧ r = resV e p i)
def csOf (s : ByteArray) (i : Nat) : CV := ((cutsE s s.size)[i]?).getD ⟨0, false, ⟨#[]⟩, ⟨#[]⟩⟩
theorem flatC_get (l : List CV) (i q : Nat) (hi : i < l.length) (hq : q < 4) : (flatC l)[i * 4 + q]? = (l[i].cells)[q]? := by
  induction l generalizing i with
  | nil => simp at hi
  | cons c l ih =>
    have hc : c.cells.length = 4 := rfl
    rw [show flatC (c :: l) = c.cells ++ flatC l from by simp [flatC]]
    cases i with
    | zero => rw [List.getElem?_append_left (by omega)]; simp
    | succ i =>
      rw [List.getElem?_append_right (by omega), hc, show (i + 1) * 4 + q - 4 = i * 4 + q by omega]
      exact ih i (by simpa using hi)
theorem inC_own {W : World} {base : Nat} {v : Value} {l : List CV} (h : W.ownsRow base 85 4 v l.length (flatC l)) : ∃ a cap, v = .slice a l.length cap ∧ InC W a l.length (fun i => (l[i]?).getD ⟨0, false, ⟨#[]⟩, ⟨#[]⟩⟩) := by
  rcases Joins.ownsRow_forms h with ⟨rfl, h0⟩ | ⟨g, cap, rfl⟩
  · exact ⟨none, 0, by rw [h0], fun hn => by omega⟩
  · refine ⟨some ⟨g, 0, none⟩, cap, rfl, fun hn => ⟨g, 0, rfl, ?_, fun i hi => ?_⟩⟩
    · exact ((h.lt g rfl)).2
    · have e : ∀ q u, q < 4 → (l[i].cells)[q]? = some u → W.cell? ⟨g, i * 4 + q, none⟩ = some u := fun q u hq hu => by
        rw [h.cellAt (i * 4 + q) (by omega), flatC_get l i q hi hq, hu]
      rw [Nat.zero_add]
      simp only [List.getElem?_eq_getElem hi, Option.getD_some]
      exact ⟨e 0 _ (by omega) rfl, e 1 _ (by omega) rfl, e 2 _ (by omega) rfl, e 3 _ (by omega) rfl⟩
theorem cuts_p (s : ByteArray) (c : CV) (h : c ∈ cutsE s s.size) : c.p < 32 := by
  unfold cutsE at h
  rcases List.mem_append.1 h with h | h
  · obtain ⟨k, hk, hc⟩ := List.mem_flatMap.1 h
    unfold cutN at hc
    split at hc
    · rw [List.mem_singleton.1 hc]; simpa using hk
    · cases hc
  · obtain ⟨k, hk, hc⟩ := List.mem_flatMap.1 h
    unfold cutS at hc
    split at hc
    · cases hc
    · split at hc
      · rename_i hH
        obtain ⟨n, hn, hC, _⟩ := find_yes _ hH
        rw [List.mem_singleton.1 hc]
        show symN _ < 32
        unfold symN
        rw [hC]
        exact hn
      · cases hc
theorem csOf_p (s : ByteArray) (c : Nat) (hc : c < (cutsE s s.size).length) : (csOf s c).p < 32 := by
  unfold csOf
  rw [List.getElem?_eq_getElem hc]
  exact cuts_p s _ (List.getElem_mem hc)
/-- The readings of a word. -/
def Rdgs (s : ByteArray) (us : Nat → UV) (n : Nat) : Nat → Nat → Prop := Seen (csOf s) us n (cutsE s s.size).length 0
theorem rout_p {s : ByteArray} {us : Nat → UV} {n : Nat} {p i : Nat} (h : ROut (Rdgs s us n) 0 p i) : p < 32 ∧ i < n := by
  rcases h with (⟨h, _⟩ | ⟨_, h, _⟩) | ⟨h, _⟩
  · cases h
  · obtain ⟨c, hc, hp, hi, _⟩ := (seen_end _ _).1 h
    exact ⟨hp ▸ csOf_p s c hc, hi⟩
  · cases h
set_option maxRecDepth 100000 in
set_option maxHeartbeats 4000000 in
theorem split_any (s : ByteArray) (hs : s.size ≤ maxLen) (a : Option Addr) (n cap : Nat) (us : Nat → UV) (w : World) (hU : InU w a n us) (hn : n ≤ maxLen) (htab : Tab w) :
    Calls Tryz.prog 7 #[.string s, .slice a n cap] w fun r w' => ∃ v, r = .returned v ∧ SplitR (Rdgs s us n) s us n v ∧ Below w.heap.size w w' := by
  have HU := hide hU; have HTW := hide htab; have HNL := hide hn
  unfold maxLen at hn hs
  clear hU htab
  obtain ⟨V, hV⟩ : ∃ V, V = (w.alloc (.cells #[.string s] 9)).alloc (.cells #[.string ⟨#[]⟩, .string ⟨#[]⟩, .string ⟨#[]⟩, .string ⟨#[]⟩, .bool false] 30) := ⟨_, rfl⟩
  have HBX : Hid (V.cell? ⟨w.heap.size, 0, none⟩ = some (.string s) ∧ w.heap.size < V.heap.size) := by rw [hV]; exact ⟨by simp [go_sem], by simp; omega⟩
  have HZV : Hid (T5 V (w.heap.size + 1) (.string ⟨#[]⟩) (.string ⟨#[]⟩) (.string ⟨#[]⟩) (.string ⟨#[]⟩) (.bool false)) := by rw [hV]; exact ⟨by simp [go_sem], by simp [go_sem], by simp [go_sem], by simp [go_sem], by simp [go_sem], by simp [go_sem], by simp [go_sem], by simp [go_sem], by simp [go_sem], by simp [go_sem]⟩
  have HBV : Hid (Below w.heap.size w V) := by rw [hV]; exact ((Below.refl _ _).alloc (Nat.le_refl _) _).alloc (by simp) _
  have HV := hide hV
  clear hV
  have HFIN : Hid (∀ (wq : World) (i e : Int), T5 wq (w.heap.size + 1) (.string ⟨#[]⟩) (.string ⟨#[]⟩) (.string ⟨#[]⟩) (.string ⟨#[]⟩) (.bool false) → True) := fun _ _ _ _ => trivial
  clear HFIN
  by_cases h0 : s.size = 0
  · have e0 : s.toList.isEmpty = true := by rw [ByteArray.toList_eq]; have : s.data.toList.length = 0 := by simpa using h0
                                            cases hq : s.data.toList with
                                            | nil => rfl
                                            | cons _ _ => rw [hq] at this; cases this
    go_enter Tryz.func7, Tryz.ntmps7
    go_upto_region 1 with fail
    rw [← unhide HV]
    clear HV
    have t0 := (unhide HBX).1
    have z0 := (unhide HZV).c0; have z1 := (unhide HZV).c1; have z2 := (unhide HZV).c2; have z3 := (unhide HZV).c3; have z4 := (unhide HZV).c4; have f0 := (unhide HZV).f0; have f1 := (unhide HZV).f1; have f2 := (unhide HZV).f2; have f3 := (unhide HZV).f3; have f4 := (unhide HZV).f4
    have HH := hide h0
    clear h0
    go_wp2_with fail
    have hS := (unhide HZV).store (.string ⟨#[]⟩) (.string ⟨#[]⟩) (.string ⟨#[]⟩) (.string ⟨#[]⟩) (.bool false)
    have v0 := hS.c0; have v1 := hS.c1; have v2 := hS.c2; have v3 := hS.c3; have v4 := hS.c4
    exact bodyPost_ret (v := .tuple #[zeroP, .int .i64 0, .int .i64 3]) (w := store5 V (w.heap.size + 1) (.string ⟨#[]⟩) (.string ⟨#[]⟩) (.string ⟨#[]⟩) (.string ⟨#[]⟩) (.bool false)) (by simp [results, Tryz.results7, go_sem, v0, v1, v2, v3, v4, zeroP]) rfl ⟨_, rfl, Or.inl ⟨Or.inl (unhide HH), rfl⟩, below_store5 (unhide HBV) (Nat.le_succ _) (.string ⟨#[]⟩) (.string ⟨#[]⟩) (.string ⟨#[]⟩) (.string ⟨#[]⟩) (.bool false)⟩
  have e0 : s.toList.isEmpty = false := by
    rw [ByteArray.toList_eq]
    cases hq : s.data.toList with
    | nil => have : s.data.toList.length = 0 := by rw [hq]; rfl
             exact absurd (by simpa using this) h0
    | cons _ _ => rfl
  by_cases h80 : 80 < s.size
  · have h80I : (80 : Int) < (s.size : Int) := by omega
    go_enter Tryz.func7, Tryz.ntmps7
    go_upto_region 1 with fail
    rw [← unhide HV]
    clear HV
    have t0 := (unhide HBX).1
    have z0 := (unhide HZV).c0; have z1 := (unhide HZV).c1; have z2 := (unhide HZV).c2; have z3 := (unhide HZV).c3; have z4 := (unhide HZV).c4; have f0 := (unhide HZV).f0; have f1 := (unhide HZV).f1; have f2 := (unhide HZV).f2; have f3 := (unhide HZV).f3; have f4 := (unhide HZV).f4
    go_wp2_with fail
    have hS := (unhide HZV).store (.string ⟨#[]⟩) (.string ⟨#[]⟩) (.string ⟨#[]⟩) (.string ⟨#[]⟩) (.bool false)
    have v0 := hS.c0; have v1 := hS.c1; have v2 := hS.c2; have v3 := hS.c3; have v4 := hS.c4
    exact bodyPost_ret (v := .tuple #[zeroP, .int .i64 0, .int .i64 3]) (w := store5 V (w.heap.size + 1) (.string ⟨#[]⟩) (.string ⟨#[]⟩) (.string ⟨#[]⟩) (.string ⟨#[]⟩) (.bool false)) (by simp [results, Tryz.results7, go_sem, v0, v1, v2, v3, v4, zeroP]) rfl ⟨_, rfl, Or.inl ⟨Or.inr h80, rfl⟩, below_store5 (unhide HBV) (Nat.le_succ _) (.string ⟨#[]⟩) (.string ⟨#[]⟩) (.string ⟨#[]⟩) (.string ⟨#[]⟩) (.bool false)⟩
  have h80I : ¬ (80 : Int) < (s.size : Int) := by omega
  have HI80 : Hid (s.size ≤ 80) := by show _ ≤ _; omega
  have HI0 : Hid (0 < s.size) := by show _ < _; omega
  clear h0 h80
  have HIX : Hid (∀ W, Below V.heap.size V W → Calls Tryz.prog 13 #[.slice a n cap, .func (.func 14) #[] #[.pointer (some ⟨w.heap.size, 0, none⟩)]] W fun r w' => ∃ j : Int, r = .returned (.int .i64 j) ∧ FirstU (plainU s us) n j ∧ Below W.heap.size W w') := fun W hW => by
    have hb := (unhide HBV).trans (hW.mono (unhide HBV).size)
    exact uindex_any s a n cap us w.heap.size W ((unhide HU).later hb) (unhide HNL) ((hW.cell (p := ⟨w.heap.size, 0, none⟩) (unhide HBX).2).trans (unhide HBX).1) (Nat.lt_of_lt_of_le (unhide HBX).2 hW.size)
  go_enter Tryz.func7, Tryz.ntmps7
  go_upto_region 1 with fail
  rw [← unhide HV]
  clear HV
  have t0 := (unhide HBX).1
  go_upto_region 4 with (go_at_call 13; go_must (refine (unhide HIX _ (Below.refl _ _)).mono ?_; rintro e w1 ⟨j, rfl, hj, hb1⟩; have HJ := hide hj; have HB1 := hide hb1; clear hj hb1))
  have HBW1 : Hid (Below w.heap.size w w1) := (unhide HBV).trans ((unhide HB1).mono (unhide HBV).size)
  have HZ1 := hide ((unhide HZV).later (unhide HB1))
  have HX1 : Hid (w1.cell? ⟨w.heap.size, 0, none⟩ = some (.string s)) := ((unhide HB1).cell (p := ⟨w.heap.size, 0, none⟩) (unhide HBX).2).trans (unhide HBX).1
  clear t0
  rcases unhide HJ with ⟨k, hk, rfl, hk1, hk2⟩ | ⟨rfl, hnone⟩
  · have hk0 : (0 : Int) ≤ (k : Int) := by omega
    have HF : Hid (FirstU (plainU s us) n (k : Int)) := Or.inl ⟨k, hk, rfl, hk1, hk2⟩
    clear hk1 hk2
    have z0 := (unhide HZ1).c0; have z1 := (unhide HZ1).c1; have z2 := (unhide HZ1).c2; have z3 := (unhide HZ1).c3; have z4 := (unhide HZ1).c4; have f0 := (unhide HZ1).f0; have f1 := (unhide HZ1).f1; have f2 := (unhide HZ1).f2; have f3 := (unhide HZ1).f3; have f4 := (unhide HZ1).f4
    go_wp2_with fail
    have hS := (unhide HZ1).store (.string ⟨#[]⟩) (.string ⟨#[]⟩) (.string ⟨#[]⟩) (.string ⟨#[]⟩) (.bool false)
    have v0 := hS.c0; have v1 := hS.c1; have v2 := hS.c2; have v3 := hS.c3; have v4 := hS.c4
    exact bodyPost_ret (v := .tuple #[zeroP, .int .i64 (k : Int), .int .i64 0]) (w := store5 w1 (w.heap.size + 1) (.string ⟨#[]⟩) (.string ⟨#[]⟩) (.string ⟨#[]⟩) (.string ⟨#[]⟩) (.bool false)) (by simp [results, Tryz.results7, go_sem, v0, v1, v2, v3, v4, zeroP]) rfl ⟨_, rfl, Or.inr (Or.inl ⟨unhide HI0, unhide HI80, k, hk, unhide HF, rfl⟩), below_store5 (unhide HBW1) (Nat.le_succ _) (.string ⟨#[]⟩) (.string ⟨#[]⟩) (.string ⟨#[]⟩) (.string ⟨#[]⟩) (.bool false)⟩
  · have HF : Hid (FirstU (plainU s us) n (-1)) := Or.inr ⟨rfl, hnone⟩
    clear hnone HJ
    have HCU : Hid (∀ W, Calls Tryz.prog 16 #[.string s] W fun r w' => ∃ v, r = .returned v ∧ w'.ownsRow (W.heap.size + 1) 85 4 v (cutsE s s.size).length (flatC (cutsE s s.size)) ∧ Below W.heap.size W w') := fun W => cuts_any s (unhide HI80) (unhide HI0) W
    have t0 := unhide HX1
    go_upto_region 7 with (first
      | (go_at_call 16; go_must (refine (unhide HCU _).mono ?_; rintro e w2 ⟨vc, rfl, hoc, hb2⟩; obtain ⟨ac, cc, rfl, hic⟩ := inC_own hoc; have HB2 := hide hb2; have HIC := hide hic; clear hb2 hic hoc))
      | (go_at_call 15; go_must (refine (only_any ac (cutsE s s.size).length cc (csOf s) a n cap us _ (unhide HIC) (by have h := cutsE_len s s.size; have h2 := unhide HI80; omega) ((unhide HU).later ((unhide HBW1).trans ((unhide HB2).mono (unhide HBW1).size))) (unhide HNL) (csOf_p s)).mono ?_; rintro e w3 ⟨e3, p, i, rfl, ho3, hb3⟩; have HO3 := hide ho3; have HB3 := hide hb3; clear ho3 hb3)))
    obtain ⟨U, hU⟩ : ∃ U, U = w3.alloc (.cells #[.int .i64 (p : Int), .int .i64 (i : Int)] 44) := ⟨_, rfl⟩
    have HBU3 : Hid (Below w3.heap.size w3 U) := by rw [hU]; exact (Below.refl _ _).alloc (Nat.le_refl _) _
    have HFB : Hid (T2 U w3.heap.size (.int .i64 (p : Int)) (.int .i64 (i : Int))) := by rw [hU]; exact ⟨by simp [go_sem], by simp [go_sem], by simp [go_sem], by simp [go_sem]⟩
    rw [← hU]
    clear hU
    have HB23 : Hid (Below w1.heap.size w1 U) := (unhide HB2).trans (((unhide HB3).trans ((unhide HBU3).mono (unhide HB3).size)).mono (unhide HB2).size)
    have HBU : Hid (Below w.heap.size w U) := (unhide HBW1).trans ((unhide HB23).mono (unhide HBW1).size)
    have HZU := hide ((unhide HZ1).later (unhide HB23))
    have HTU : Hid (Tab U) := (unhide HTW).later (unhide HBU)
    have HLU : Hid (w.heap.size + 1 < w3.heap.size) := Nat.lt_of_lt_of_le (unhide HZ1).lt (Nat.le_trans (unhide HB2).size (unhide HB3).size)
    clear HB2 HB3 HIC HBU3 HB23 HX1 t0 HZ1 HBW1
    generalize w3.heap.size = gb at *
    by_cases he : e3 = 0
    · subst he
      obtain ⟨hp32, hin⟩ := rout_p (unhide HO3)
      have hp0 : (0 : Int) ≤ (p : Int) := by omega
      have hpI : (p : Int) < 32 := by omega
      have HRES : Hid (resV 0 p i = .tuple #[.agg #[.string (tbl p).nm, .string (tbl p).sy, .string (tbl p).fn, .string (tbl p).fd, .bool (tbl p).bi], .int .i64 (i : Int), .int .i64 0]) := by show _ = _; unfold resV; rw [if_pos rfl]; rfl
      have HT := hide (fun W (ht : Tab W) => told_any p hp32 W ht)
      unfold rowV RowV preV at HT
      have HRA := hide (fun (W W' : World) hb => rows_at W W' hb p hp32)
      have HOUT : Hid (SplitR (Rdgs s us n) s us n (resV 0 p i)) := Or.inr (Or.inr ⟨unhide HI0, unhide HI80, unhide HF, 0, p, i, unhide HO3, rfl⟩)
      rw [unhide HRES] at HOUT
      clear HRES
      generalize (tbl p).nm = nm at *
      generalize (tbl p).sy = sy at *
      generalize (tbl p).f = f at *
      generalize (tbl p).fn = fn at *
      generalize (tbl p).fd = fd at *
      generalize (tbl p).bi = bi at *
      have b0 := (unhide HFB).c0; have b1 := (unhide HFB).c1
      have z0 := (unhide HZU).c0; have z1 := (unhide HZU).c1; have z2 := (unhide HZU).c2; have z3 := (unhide HZU).c3; have z4 := (unhide HZU).c4
      go_upto_region 9 with fail
      have HS0 : Hid (U.drew.cell? ⟨gb, 0, none⟩ = some (.int .i64 (p : Int)) ∧ U.drew.cell? ⟨gb, 1, none⟩ = some (.int .i64 (i : Int))) := ⟨b0, b1⟩
      refine region_reads 8 (fun W => W.cell? ⟨gb, 0, none⟩ = some (.int .i64 (p : Int))) (fun W => W.cell? ⟨gb, 1, none⟩ = some (.int .i64 (i : Int))) 11 rfl (by kernel_rfl) ?_
      refine wpR_take (i := 1) (oi := _) (v := .pointer (some ⟨gb, 0, none⟩)) rfl (by kernel_rfl) (by kernel_rfl) (by kernel_rfl) (by kernel_rfl) (fun _ _ _ h => h) (Or.inl ⟨by rfl, ?_⟩) ⟨(unhide HS0).1, (unhide HS0).2⟩ ?_
      · intro W hW
        go_split_ands
        go_simp
      refine wpR_take (i := 2) (oi := _) (v := .int .i64 (p : Int)) rfl (by kernel_rfl) (by kernel_rfl) (by kernel_rfl) (by kernel_rfl) (fun _ _ _ h => h) (Or.inl ⟨by rfl, ?_⟩) ⟨(unhide HS0).1, (unhide HS0).2⟩ ?_
      · intro W hW
        go_split_ands
        go_simp
      refine wpR_take7 (i := 6) (oi := _) (v := .pointer (some ⟨gb, 1, none⟩)) rfl (by kernel_rfl) (by kernel_rfl) (by kernel_rfl) (by kernel_rfl) (fun _ _ _ h => h) (Or.inl ⟨by rfl, ?_⟩) ⟨(unhide HS0).1, (unhide HS0).2⟩ ?_
      · intro W hW
        go_split_ands
        go_simp
      refine wpR_take7 (i := 7) (oi := _) (v := .int .i64 (i : Int)) rfl (by kernel_rfl) (by kernel_rfl) (by kernel_rfl) (by kernel_rfl) (fun _ _ _ h => h) (Or.inl ⟨by rfl, ?_⟩) ⟨(unhide HS0).1, (unhide HS0).2⟩ ?_
      · intro W hW
        go_split_ands
        go_simp
      refine wpR_op (i := 0) (o := _) (by kernel_rfl) rfl rfl (fun K hK => ?_)
      go_simp
      refine (rows_any _).mono ?_
      rintro e w4 ⟨rfl, hw4⟩
      obtain ⟨c0, c1, c2⟩ : w4.cell? ⟨U.heap.size, p * 3, none⟩ = some (.string nm) ∧ w4.cell? ⟨U.heap.size, p * 3 + 1, none⟩ = some (.string sy) ∧ w4.cell? ⟨U.heap.size, p * 3 + 2, none⟩ = some (.func (.func f) #[] #[]) := unhide HRA U.drew w4 (by rw [hw4]; exact Below.refl _ _)
      have HB4 : Hid (Below U.heap.size U w4) := (by rw [hw4]; exact (Below.refl _ _).drew.alloc (Nat.le_refl _) _)
      clear hw4 b0 b1 z0 z1 z2 z3 z4
      have HS4 : Hid (w4.cell? ⟨gb, 0, none⟩ = some (.int .i64 (p : Int)) ∧ w4.cell? ⟨gb, 1, none⟩ = some (.int .i64 (i : Int))) := ⟨((unhide HB4).cell (p := ⟨gb, 0, none⟩) (unhide HFB).lt).trans (unhide HFB).c0, ((unhide HB4).cell (p := ⟨gb, 1, none⟩) (unhide HFB).lt).trans (unhide HFB).c1⟩
      refine hK _ _ ⟨(unhide HS4).1, (unhide HS4).2⟩ ?_
      clear hK K
      refine wpR_op (i := 3) (o := _) (by kernel_rfl) rfl rfl (fun K hK => ?_)
      go_simp
      refine hK _ _ ⟨(unhide HS4).1, (unhide HS4).2⟩ ?_
      clear hK K
      refine wpR_op (i := 4) (o := _) (by kernel_rfl) rfl rfl (fun K hK => ?_)
      go_simp
      refine hK _ _ ⟨(unhide HS4).1, (unhide HS4).2⟩ ?_
      clear hK K
      refine wpR_op (i := 5) (o := _) (by kernel_rfl) rfl rfl (fun K hK => ?_)
      go_simp
      refine (unhide HT _ ((unhide HTU).later (unhide HB4))).mono ?_
      rintro e w5 ⟨rfl, hb5⟩
      have HB5 : Hid (Below U.heap.size U w5) := (unhide HB4).trans (hb5.mono (unhide HB4).size)
      have HZ5 := hide ((unhide HZU).later (unhide HB5))
      clear hb5 c0 c1 c2
      have HS5 : Hid (w5.cell? ⟨gb, 0, none⟩ = some (.int .i64 (p : Int)) ∧ w5.cell? ⟨gb, 1, none⟩ = some (.int .i64 (i : Int))) := ⟨((unhide HB5).cell (p := ⟨gb, 0, none⟩) (unhide HFB).lt).trans (unhide HFB).c0, ((unhide HB5).cell (p := ⟨gb, 1, none⟩) (unhide HFB).lt).trans (unhide HFB).c1⟩
      have z0 := (unhide HZ5).c0; have z1 := (unhide HZ5).c1; have z2 := (unhide HZ5).c2; have z3 := (unhide HZ5).c3; have z4 := (unhide HZ5).c4; have f0 := (unhide HZ5).f0; have f1 := (unhide HZ5).f1; have f2 := (unhide HZ5).f2; have f3 := (unhide HZ5).f3; have f4 := (unhide HZ5).f4
      refine hK _ _ ⟨(unhide HS5).1, (unhide HS5).2⟩ ?_
      clear hK K
      have HS7 : Hid ((store5 w5 (w.heap.size + 1) (.string nm) (.string sy) (.string fn) (.string fd) (.bool bi)).cell? ⟨gb, 1, none⟩ = some (.int .i64 (i : Int))) := by
        unfold store5
        show _ = _
        rw [World.cell?_setCell_other _ _ _ _ (by intro e; have := congrArg Addr.block e; have h := unhide HLU; simp at this; omega), World.cell?_setCell_other _ _ _ _ (by intro e; have := congrArg Addr.block e; have h := unhide HLU; simp at this; omega), World.cell?_setCell_other _ _ _ _ (by intro e; have := congrArg Addr.block e; have h := unhide HLU; simp at this; omega), World.cell?_setCell_other _ _ _ _ (by intro e; have := congrArg Addr.block e; have h := unhide HLU; simp at this; omega), World.cell?_setCell_other _ _ _ _ (by intro e; have := congrArg Addr.block e; have h := unhide HLU; simp at this; omega)]
        exact (unhide HS5).2
      refine wpR_late (i := 8) (o := _) (by kernel_rfl) rfl rfl (by kernel_rfl) (fun K hK => ?_)
      go_simp
      refine hK _ _ (by first | exact unhide HS7 | (simp [go_sem, unhide HS7]; done)) ?_
      clear hK K
      refine wpR_late (i := 9) (o := _) (by kernel_rfl) rfl rfl (by kernel_rfl) (fun K hK => ?_)
      go_simp
      refine hK _ _ (by first | exact unhide HS7 | (simp [go_sem, unhide HS7]; done)) ?_
      clear hK K
      refine wpR_late (i := 10) (o := _) (by kernel_rfl) rfl rfl (by kernel_rfl) (fun K hK => ?_)
      go_simp
      refine hK _ _ (by first | exact unhide HS7 | (simp [go_sem, unhide HS7]; done)) ?_
      clear hK K
      refine wpR_done (by kernel_rfl) ?_
      go_wp2_with fail
      have hS := (unhide HZ5).store (.string nm) (.string sy) (.string fn) (.string fd) (.bool bi)
      have v0 := hS.c0; have v1 := hS.c1; have v2 := hS.c2; have v3 := hS.c3; have v4 := hS.c4
      exact bodyPost_ret (v := .tuple #[.agg #[.string nm, .string sy, .string fn, .string fd, .bool bi], .int .i64 (i : Int), .int .i64 0]) (w := store5 w5 (w.heap.size + 1) (.string nm) (.string sy) (.string fn) (.string fd) (.bool bi)) (by simp [results, Tryz.results7, go_sem, v0, v1, v2, v3, v4]) rfl ⟨_, rfl, unhide HOUT, below_store5 ((unhide HBU).trans ((unhide HB5).mono (unhide HBU).size)) (Nat.le_succ _) (.string nm) (.string sy) (.string fn) (.string fd) (.bool bi)⟩
    · have he' : (e3 == 0) = false := by simpa using he
      have HOUT : Hid (SplitR (Rdgs s us n) s us n (.tuple #[zeroP, .int .i64 0, .int .i64 e3])) := Or.inr (Or.inr ⟨unhide HI0, unhide HI80, unhide HF, e3, p, i, unhide HO3, by unfold resV; rw [if_neg he]⟩)
      have z0 := (unhide HZU).c0; have z1 := (unhide HZU).c1; have z2 := (unhide HZU).c2; have z3 := (unhide HZU).c3; have z4 := (unhide HZU).c4; have f0 := (unhide HZU).f0; have f1 := (unhide HZU).f1; have f2 := (unhide HZU).f2; have f3 := (unhide HZU).f3; have f4 := (unhide HZU).f4
      go_wp2_with fail
      have hS := (unhide HZU).store (.string ⟨#[]⟩) (.string ⟨#[]⟩) (.string ⟨#[]⟩) (.string ⟨#[]⟩) (.bool false)
      have v0 := hS.c0; have v1 := hS.c1; have v2 := hS.c2; have v3 := hS.c3; have v4 := hS.c4
      exact bodyPost_ret (v := .tuple #[zeroP, .int .i64 0, .int .i64 e3]) (w := store5 U (w.heap.size + 1) (.string ⟨#[]⟩) (.string ⟨#[]⟩) (.string ⟨#[]⟩) (.string ⟨#[]⟩) (.bool false)) (by simp [results, Tryz.results7, go_sem, v0, v1, v2, v3, v4, zeroP]) rfl ⟨_, rfl, unhide HOUT, below_store5 (unhide HBU) (Nat.le_succ _) (.string ⟨#[]⟩) (.string ⟨#[]⟩) (.string ⟨#[]⟩) (.string ⟨#[]⟩) (.bool false)⟩
end Go.Proofs.YtpoapffbpgnkpaaGreatDoor

namespace Go.Proofs.YtpoapffbpgnkpaaGreatDoor
open Go.RowKit
set_option maxRecDepth 100000 in
set_option maxHeartbeats 2000000 in
theorem refTakes_any (nm sy : ByteArray) (d0 d1 d2 d3 d4 d5 d6 d7 : Int) (fn fd on od : ByteArray) (tk : Int) (pn ps pf pd : ByteArray) (pb : Bool) (w : World) :
    Calls Tryz.prog 20 #[.agg #[.string nm, .string sy, .int .i64 d0, .int .i64 d1, .int .i64 d2, .int .i64 d3, .int .i64 d4, .int .i64 d5, .int .i64 d6, .int .i64 d7, .string fn, .string fd, .string on, .string od, .int .i64 tk], .agg #[.string pn, .string ps, .string pf, .string pd, .bool pb]] w fun r w' => r = .returned (.bool (takesB tk pb)) ∧ Below w.heap.size w w' := by
  unfold takesB
  cases h3 : (tk == 3)
  all_goals cases h1 : (tk == 1)
  all_goals cases h2 : (tk == 2)
  all_goals cases pb
  all_goals
   go_enter Tryz.func20, Tryz.ntmps20
   go_wp2_with fail
   all_goals
    go_ret
    refine ⟨?_, ((Below.refl _ _).alloc (Nat.le_refl _) _).alloc (by simp) _⟩
    first | rfl | (simp [*]; done) | (simp_all; done)
/-- Does the document read a word, cut at a place? -/
def rdAt (s pn ps nm sy : ByteArray) (e : Nat) : Bool := ((s.extract 0 e).toList == pn.toList && (s.extract e s.size).toList == nm.toList) || (symB (s.extract 0 e) pn ps && (s.extract e s.size).toList == sy.toList)
/-- Does it at any? -/
def rdAny (s pn ps nm sy : ByteArray) : Prop := ∃ e, 1 ≤ e ∧ e < s.size ∧ rdAt s pn ps nm sy e = true
structure T15 (W : World) (g : Nat) (nm sy : ByteArray) (d0 d1 d2 d3 d4 d5 d6 d7 : Int) (fn fd on od : ByteArray) (tk : Int) : Prop where
  c0 : W.cell? ⟨g, 0, none⟩ = some (.string nm)
  c1 : W.cell? ⟨g, 1, none⟩ = some (.string sy)
  c2 : W.cell? ⟨g, 2, none⟩ = some (.int .i64 d0)
  c3 : W.cell? ⟨g, 3, none⟩ = some (.int .i64 d1)
  c4 : W.cell? ⟨g, 4, none⟩ = some (.int .i64 d2)
  c5 : W.cell? ⟨g, 5, none⟩ = some (.int .i64 d3)
  c6 : W.cell? ⟨g, 6, none⟩ = some (.int .i64 d4)
  c7 : W.cell? ⟨g, 7, none⟩ = some (.int .i64 d5)
  c8 : W.cell? ⟨g, 8, none⟩ = some (.int .i64 d6)
  c9 : W.cell? ⟨g, 9, none⟩ = some (.int .i64 d7)
  c10 : W.cell? ⟨g, 10, none⟩ = some (.string fn)
  c11 : W.cell? ⟨g, 11, none⟩ = some (.string fd)
  c12 : W.cell? ⟨g, 12, none⟩ = some (.string on)
  c13 : W.cell? ⟨g, 13, none⟩ = some (.string od)
  c14 : W.cell? ⟨g, 14, none⟩ = some (.int .i64 tk)
theorem T15.later {W V : World} {g : Nat} {nm sy : ByteArray} {d0 d1 d2 d3 d4 d5 d6 d7 : Int} {fn fd on od : ByteArray} {tk : Int} (h : T15 W g nm sy d0 d1 d2 d3 d4 d5 d6 d7 fn fd on od tk) (hb : Below W.heap.size W V) : T15 V g nm sy d0 d1 d2 d3 d4 d5 d6 d7 fn fd on od tk := by
  have hl : g < W.heap.size := World.block_lt_of_cell? _ _ h.c0
  exact ⟨(hb.cell (p := ⟨g, 0, none⟩) hl).trans h.c0, (hb.cell (p := ⟨g, 1, none⟩) hl).trans h.c1, (hb.cell (p := ⟨g, 2, none⟩) hl).trans h.c2, (hb.cell (p := ⟨g, 3, none⟩) hl).trans h.c3, (hb.cell (p := ⟨g, 4, none⟩) hl).trans h.c4, (hb.cell (p := ⟨g, 5, none⟩) hl).trans h.c5, (hb.cell (p := ⟨g, 6, none⟩) hl).trans h.c6, (hb.cell (p := ⟨g, 7, none⟩) hl).trans h.c7, (hb.cell (p := ⟨g, 8, none⟩) hl).trans h.c8, (hb.cell (p := ⟨g, 9, none⟩) hl).trans h.c9, (hb.cell (p := ⟨g, 10, none⟩) hl).trans h.c10, (hb.cell (p := ⟨g, 11, none⟩) hl).trans h.c11, (hb.cell (p := ⟨g, 12, none⟩) hl).trans h.c12, (hb.cell (p := ⟨g, 13, none⟩) hl).trans h.c13, (hb.cell (p := ⟨g, 14, none⟩) hl).trans h.c14⟩
set_option maxRecDepth 100000 in
set_option maxHeartbeats 4000000 in
theorem refReads_any (rb : Bool) (s : ByteArray) (hs : s.size ≤ 80) (hs0 : 0 < s.size) (pn ps pf pd : ByteArray) (pb : Bool) (nm sy : ByteArray) (d0 d1 d2 d3 d4 d5 d6 d7 : Int) (fn fd on od : ByteArray) (tk : Int) (hrb : rb = true ↔ rdAny s pn ps nm sy) (w : World) :
    Calls Tryz.prog 21 #[.string s, .agg #[.string pn, .string ps, .string pf, .string pd, .bool pb], .agg #[.string nm, .string sy, .int .i64 d0, .int .i64 d1, .int .i64 d2, .int .i64 d3, .int .i64 d4, .int .i64 d5, .int .i64 d6, .int .i64 d7, .string fn, .string fd, .string on, .string od, .int .i64 tk]] w fun r w' => r = .returned (.bool rb) ∧ Below w.heap.size w w' := by
  have HRB := hide hrb
  clear hrb
  obtain ⟨V, hV⟩ : ∃ V, V = (w.alloc (.cells #[.string pn, .string ps, .string pf, .string pd, .bool pb] 30)).alloc (.cells #[.string nm, .string sy, .int .i64 d0, .int .i64 d1, .int .i64 d2, .int .i64 d3, .int .i64 d4, .int .i64 d5, .int .i64 d6, .int .i64 d7, .string fn, .string fd, .string on, .string od, .int .i64 tk] 28) := ⟨_, rfl⟩
  have HP : Hid (T5 V w.heap.size (.string pn) (.string ps) (.string pf) (.string pd) (.bool pb)) := by rw [hV]; exact ⟨by simp [go_sem], by simp [go_sem], by simp [go_sem], by simp [go_sem], by simp [go_sem], by simp [go_sem], by simp [go_sem], by simp [go_sem], by simp [go_sem], by simp [go_sem]⟩
  have HU : Hid (T15 V (w.heap.size + 1) nm sy d0 d1 d2 d3 d4 d5 d6 d7 fn fd on od tk) := by rw [hV]; exact ⟨by simp [go_sem], by simp [go_sem], by simp [go_sem], by simp [go_sem], by simp [go_sem], by simp [go_sem], by simp [go_sem], by simp [go_sem], by simp [go_sem], by simp [go_sem], by simp [go_sem], by simp [go_sem], by simp [go_sem], by simp [go_sem], by simp [go_sem]⟩
  have HBV : Hid (Below w.heap.size w V) := by rw [hV]; exact ((Below.refl _ _).alloc (Nat.le_refl _) _).alloc (by simp) _
  have HV := hide hV
  clear hV
  go_enter Tryz.func21, Tryz.ntmps21
  go_upto_region 1 with fail
  rw [← unhide HV]
  clear HV
  go_wp2_with fail
  go_loopw [7] (fun s7 wr => ∃ (e : Nat), 1 ≤ e ∧ e ≤ s.size ∧ s7 = .int .i64 (e : Int) ∧ Hid (∀ i, 1 ≤ i → i < e → rdAt s pn ps nm sy i = false) ∧ Hid (Below V.heap.size V wr)) (fun s7 _ => s.size - (intOf s7).toNat)
  case atStart => exact ⟨1, by omega, by omega, rfl, fun i h1 h2 => by omega, Below.refl _ _⟩
  case round =>
    obtain ⟨e, he1, he2, rfl, HN, HB⟩ := hrel
    by_cases hes : e < s.size
    · have heI : (e : Int) < (s.size : Int) := by omega
      have he0 : (0 : Int) ≤ (e : Int) := by omega
      have HP1 := hide ((unhide HP).later (unhide HB))
      have HU1 := hide ((unhide HU).later (unhide HB))
      have HBW : Hid (Below w.heap.size w wr) := (unhide HBV).trans ((unhide HB).mono (unhide HBV).size)
      have HSY := hide (fun W => symbol_any pn ps pf pd pb (s.extract 0 e) W)
      have HCL : Hid (∀ x : Later wr, (x.world.cell? ⟨w.heap.size, 0, none⟩ = some (.string pn) ∧ x.world.cell? ⟨w.heap.size, 1, none⟩ = some (.string ps) ∧ x.world.cell? ⟨w.heap.size, 2, none⟩ = some (.string pf) ∧ x.world.cell? ⟨w.heap.size, 3, none⟩ = some (.string pd) ∧ x.world.cell? ⟨w.heap.size, 4, none⟩ = some (.bool pb)) ∧ x.world.cell? ⟨w.heap.size + 1, 0, none⟩ = some (.string nm) ∧ x.world.cell? ⟨w.heap.size + 1, 1, none⟩ = some (.string sy)) := fun x => by
        have h1 := (unhide HP1).later x.below
        have h2 := (unhide HU1).later x.below
        exact ⟨⟨h1.c0, h1.c1, h1.c2, h1.c3, h1.c4⟩, h2.c0, h2.c1⟩
      have p0 : ∀ x : Later wr, x.world.cell? ⟨w.heap.size, 0, none⟩ = some (.string pn) := fun x => (unhide HCL x).1.1
      have p1 : ∀ x : Later wr, x.world.cell? ⟨w.heap.size, 1, none⟩ = some (.string ps) := fun x => (unhide HCL x).1.2.1
      have p2 : ∀ x : Later wr, x.world.cell? ⟨w.heap.size, 2, none⟩ = some (.string pf) := fun x => (unhide HCL x).1.2.2.1
      have p3 : ∀ x : Later wr, x.world.cell? ⟨w.heap.size, 3, none⟩ = some (.string pd) := fun x => (unhide HCL x).1.2.2.2.1
      have p4 : ∀ x : Later wr, x.world.cell? ⟨w.heap.size, 4, none⟩ = some (.bool pb) := fun x => (unhide HCL x).1.2.2.2.2
      have q0 : ∀ x : Later wr, x.world.cell? ⟨w.heap.size + 1, 0, none⟩ = some (.string nm) := fun x => (unhide HCL x).2.1
      have q1 : ∀ x : Later wr, x.world.cell? ⟨w.heap.size + 1, 1, none⟩ = some (.string sy) := fun x => (unhide HCL x).2.2
      have HRA : Hid (rdAt s pn ps nm sy e = (((s.extract 0 e).toList == pn.toList && (s.extract e s.size).toList == nm.toList) || (symB (s.extract 0 e) pn ps && (s.extract e s.size).toList == sy.toList))) := rfl
      cases b1 : ((s.extract 0 e).toList == pn.toList)
      all_goals cases b2 : ((s.extract e s.size).toList == nm.toList)
      all_goals cases b3 : (symB (s.extract 0 e) pn ps)
      all_goals cases b4 : ((s.extract e s.size).toList == sy.toList)
      all_goals
        rw [b1, b2, b3, b4] at HRA
        rw [b3] at HSY
        go_upto_region 4 with fail
        refine quiet_later (by kernel_rfl) (by kernel_rfl) ?_
        repeat (go_big_quiet_step ((go_at_call 73; rename_i xx; refine (unhide HSY _).mono ?_; rintro e w9 ⟨rfl, hb9⟩; have hz := xx.below.trans (hb9.mono xx.below.size); first | exact ⟨rfl, ⟨w9, hz⟩, rfl⟩ | exact ⟨rfl, hz⟩ | exact ⟨rfl, w9, hz, rfl⟩)))
        refine wpQuiet_nil ?_
        intro _ hw'
        obtain ⟨xz, hw''⟩ := hw'
        subst hw''
        have HX : Hid (Below wr.heap.size wr xz.world) := xz.below
        have HXW : Hid (Below w.heap.size w xz.world) := (unhide HBW).trans ((unhide HX).mono (unhide HBW).size)
        have HXV : Hid (Below V.heap.size V xz.world) := (unhide HB).trans ((unhide HX).mono (unhide HB).size)
        generalize xz.world = wx at *
        clear p0 p1 p2 p3 p4 q0 q1 HCL
        go_wp2_with fail
        first
        | (go_ret
           exact ⟨(by rw [(unhide HRB).2 ⟨e, he1, hes, unhide HRA⟩]; rfl), unhide HXW⟩)
        | (go_roundw
           case rel =>
             refine ⟨e + 1, by omega, by omega, by go_num, fun i h1 h2 => ?_, HXV⟩
             by_cases hi : i = e
             · rw [hi]; exact unhide HRA
             · exact unhide HN i h1 (by omega)
           case measure => simp [intOf]; omega)
    · have heI : ¬ (e : Int) < (s.size : Int) := by omega
      have HE : Hid (e = s.size) := by show _ = _; omega
      go_wp2_with fail
      go_ret
      refine ⟨?_, (unhide HBV).trans ((unhide HB).mono (unhide HBV).size)⟩
      have hf : rb = false := by
        cases hq : rb
        · rfl
        · obtain ⟨i, h1, h2, h3⟩ := (unhide HRB).1 hq
          rw [unhide HN i h1 (by rw [unhide HE]; exact h2)] at h3
          cases h3
      rw [hf]
      rfl
end Go.Proofs.YtpoapffbpgnkpaaGreatDoor

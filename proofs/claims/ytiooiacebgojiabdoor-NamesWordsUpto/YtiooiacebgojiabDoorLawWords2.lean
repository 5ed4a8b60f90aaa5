/- NamesWords: true, whatever the input, as long as the text is not too great. -/
import Derived.Test.YtiooiacebgojiabDoorLawWords
namespace Go.Proofs.YtiooiacebgojiabDoor
open Go.RowKit

theorem empty_false (l : List UInt8) (h : 0 < l.length) : (⟨l.toArray⟩ : ByteArray).toList.isEmpty = false := by
  rw [empty_size, len_text]
  simp
  intro h2
  rw [h2] at h
  exact absurd h (by simp)
theorem head_decode {F : List Int} (h : IsWord F) {f : Int} (hh : F.head? = some f) : (((Utf8.decode ⟨(encL F).toArray⟩ 0).1 : Nat) : Int) = f := by
  obtain ⟨f0, T, hF, _, _⟩ := h.shape
  obtain ⟨k, hk, hk2⟩ := h.range f0 (by rw [hF]; simp)
  obtain ⟨_, hdec, _⟩ := read_one (s := ⟨(encL F).toArray⟩) (p := 0) (F := T) hk hk2 (by rw [← hF]; simp)
  rw [hdec]
  rw [hF] at hh
  have : f0 = f := by simpa using hh
  rw [← this]
  exact hk.symm
/-- Fold's answer: an error, or a word that stays. -/
theorem fold_tells (s : ByteArray) (hs : s.size ≤ 1000000000000) : ∃ (t : ByteArray) (x y : Int), (∀ w, Calls Tryd.prog 7 #[.string s] w fun e w' => e = .returned (.tuple #[.string t, .int .i64 x, .int .i64 y]) ∧ Below w.heap.size w w') ∧
    ((x == 0) = false ∨ (x = 0 ∧ t.size ≤ 40 ∧ (∀ w, Calls Tryd.prog 7 #[.string t] w fun e w' => e = .returned (.tuple #[.string t, .int .i64 0, .int .i64 0]) ∧ Below w.heap.size w w') ∧ ∀ w, Calls Tryd.prog 8 #[.string t] w fun e w' => e = .returned (.bool true) ∧ Below w.heap.size w w')) := by
  rcases fold_fix2 s hs with ⟨t, x, y, hx, h⟩ | ⟨F, hF, h40, hin, h⟩
  · exact ⟨t, x, y, h, .inl hx⟩
  · exact ⟨_, 0, 0, h, .inr ⟨rfl, by rw [len_text]; exact h40, fold_again hF h40 hin, right_again hF h40 hin⟩⟩

set_option maxRecDepth 100000 in
set_option maxHeartbeats 1000000 in
theorem words_law (s : ByteArray) (a : Int) (w : World) (hs : s.size ≤ 100000000000) (hT : Lib.Utf8Tabs 0 1 w) :
    Calls Tryd.prog 3 #[.string s, .int .i64 a] w fun e w' => e = .returned (.bool true) ∧ Below w.heap.size w w' := by
  obtain ⟨t, x, y, h7, hx⟩ := fold_tells s (by omega)
  have H7 := hide h7
  have HX := hide hx
  have HCF := hide (cut_fix s a (by omega))
  have HA := hide awake_any
  have HT := hide hT
  clear h7 hx hT
  go_enter Tryd.func3, Tryd.ntmps3
  go_upto_if 28 with (go_at_call 7; refine (unhide H7 w).mono ?_; rintro e w1 ⟨rfl, hb1⟩; have HB1 := hide hb1; have HT1 := hide (tabs_later (unhide HT) hb1); clear hb1)
  go_cut [8, 9, 10] from 22 (fun _ _ _ wx => Hid (Below w.heap.size w wx))
  case first =>
    rcases unhide HX with hx | ⟨rfl, h40, h8, h9⟩
    · clear HX
      go_wp2_with fail
      go_meet
      exact HB1
    · have H8 := hide h8
      have H9 := hide h9
      clear HX h8 h9
      go_wp2_with (first
        | (go_at_call 7; refine (unhide H8 w1).mono ?_; rintro e w2 ⟨rfl, hb2⟩; have HB2 := hide ((unhide HB1).trans (hb2.mono (unhide HB1).size)); clear hb2)
        | (go_at_call 8; refine (unhide H9 w2).mono ?_; rintro e w3 ⟨rfl, hb3⟩; have HB3 := hide ((unhide HB2).trans (hb3.mono (unhide HB2).size)); clear hb3))
      go_meet
      exact HB3
  case rest =>
    have HBC := hcut
    have HTC := hide (tabs_later (unhide HT) (unhide HBC))
    clear HX HB1 HT1 H7 hcut
    rcases unhide HCF with ⟨x1, hx1, hc1⟩ | ⟨k, q, F, r0, hw, hc1⟩
    · have HC1 := hide hc1
      clear hc1 HCF
      go_wp2_with (first
        | (go_at_call 9; refine (unhide HC1 wc).mono ?_; rintro e w2 ⟨rfl, hb2⟩; have HB2 := hide ((unhide HBC).trans (hb2.mono (unhide HBC).size)); have HT2 := hide (tabs_later (unhide HTC) hb2); clear hb2)
        | (go_at_call 10; refine (unhide HA w2 (unhide HT2)).mono ?_; rintro e w3 ⟨rfl, hb3⟩))
      go_ret
      exact ⟨rfl, (unhide HB2).trans (hb3.mono (unhide HB2).size)⟩
    · have hshort := hw.short
      have HC1 := hide hc1
      have HC2 := hide (cut_again hw.word (by omega))
      have HC3 := hide (cut_fix s ((k : Int) + (q : Int)) (by omega))
      have hfits := hw.fits
      have hpos := hw.pos
      have hlp := encL_pos hw.word
      have hemp := empty_false (encL F) hlp
      have hTl := len_text (encL F)
      have HHD := hide (head_decode hw.word hw.head)
      have HWD := hide hw.word
      have HRC := hide (runes_conv ⟨(encL F).toArray⟩ (by rw [len_text]; exact hlp) (by rw [len_text]; omega))
      have HIT : Hid ((⟨(encL F).toArray⟩ : ByteArray).data.toList.drop 0 = encL F) := by show _ = _; simp
      have HW := hide hw
      obtain rfl := hw.place
      clear hc1 HCF hw
      generalize hTB : (⟨(encL F).toArray⟩ : ByteArray) = TB at *
      clear hTB
      generalize (encL F).length = L at *
      go_upto_region 15 with (first
        | (go_at_call_of 9 (Value.string s); refine (unhide HC1 wc).mono ?_; rintro e w2 ⟨rfl, hb2⟩; have HB2 := hide ((unhide HBC).trans (hb2.mono (unhide HBC).size)); have HT2 := hide (tabs_later (unhide HTC) hb2); clear hb2)
        | (go_at_call_of 9 (Value.string TB); refine (unhide HC2 w2).mono ?_; rintro e w3 ⟨rfl, hb3⟩; have HB3 := hide ((unhide HB2).trans (hb3.mono (unhide HB2).size)); have HT3 := hide (tabs_later (unhide HT2) hb3); clear hb3))
      have hsz3 : w.heap.size ≤ w3.heap.size := (unhide HB3).size
      clear HC1 HC2 HT2 HB2 HTC HBC
      go_loopw [17, 18] (fun _ _ wr => ∃ (p : Nat) (G : List Int), Hid (∀ f ∈ G, f ∈ F) ∧ Hid (TB.data.toList.drop p = encL G) ∧ Hid (wr.heap[w3.heap.size]? = some (.stringIter TB p)) ∧ Hid (Below w.heap.size w wr)) (fun _ _ wr => L - wr.iterPos w3.heap.size)
      case atStart => exact ⟨0, F, fun f h => h, HIT, World.iter_heap _ _ _, (unhide HB3).alloc hsz3 _⟩
      case round =>
        obtain ⟨p, G, HG, HD, HI, HB⟩ := hrel
        have hB0 : w.heap.size ≤ wr.heap.size := (unhide HB).size
        have HM : Hid (wr.iterPos w3.heap.size = p) := iterPos_of (unhide HI)
        cases G with
        | cons f G =>
          obtain ⟨kk, hk, hk2⟩ := (unhide HWD).range f (unhide HG f (by simp))
          obtain ⟨hlt, hdec, hdrop⟩ := read_one hk hk2 (unhide HD)
          have hep := enc_pos f kk hk hk2
          have hcl := (unhide HWD).classes f (unhide HG f (by simp))
          have HG2 : Hid (∀ g ∈ G, g ∈ F) := fun g hg => unhide HG g (by simp [hg])
          have HD2 := hide hdrop
          obtain ⟨n, hn⟩ : ∃ n, n = (Lib.encodeRune f).length := ⟨_, rfl⟩
          rw [← hn] at hdec hep HD2
          obtain ⟨W2, hW2⟩ : ∃ W2, W2 = wr.iterAt w3.heap.size TB (p + n) := ⟨_, rfl⟩
          have hnx : ∀ ty, (Instr.next (.pointer (some ⟨w3.heap.size, 0, none⟩)) true ty).run Tryd.prog wr = .ok (.tuple #[.bool true, .int .i64 p, .int .i32 f]) W2 := fun ty => by
            have h := Lib.run_next_any_at (P := Tryd.prog) wr _ TB p ty (unhide HI) hlt
            rw [hdec] at h
            rw [hW2, hk]
            exact h
          have HI2 : Hid (W2.heap[w3.heap.size]? = some (.stringIter TB (p + n))) := by show W2.heap[_]? = _; rw [hW2]; exact Lib.iterAt_heap _ _ _ _ _ (unhide HI)
          have HB2 : Hid (Below w.heap.size w W2) := by show Below _ _ W2; rw [hW2]; exact Lib.below_iterAt (unhide HB) hsz3 _ _
          have HC := hide (class_any f)
          rw [hTl] at hlt
          clear hW2 HI HB HG HD hk hdec hdrop hn hk2
          rcases hcl with e | e | e
          all_goals
            rw [e] at HC
            clear e
            go_wp2_with (go_at_call 11; refine (unhide HC _).mono ?_; rintro e w4 ⟨rfl, h4⟩; rw [h4]; clear h4)
            go_roundw
            case rel => exact ⟨p + n, G, HG2, HD2, HI2, HB2⟩
            case measure => rw [unhide HM, iterPos_of (unhide HI2)]; omega
        | nil =>
          have hnp := read_none (unhide HD)
          have hnx : ∀ ty, (Instr.next (.pointer (some ⟨w3.heap.size, 0, none⟩)) true ty).run Tryd.prog wr = .ok (.tuple #[.bool false]) wr := fun ty => Lib.run_next_end_at wr _ TB _ ty (unhide HI) hnp
          have HTR := hide (tabs_later (unhide HT) (unhide HB))
          clear HI HM HG HD hnp HT3
          rcases unhide HC3 with ⟨x2, hx2, hc2⟩ | ⟨k2, q2, F2, r2, hw2, hc2⟩
          · have HC2 := hide hc2
            clear hc2 HC3
            go_wp2_with (first
              | (go_at_call 9; refine (unhide HC2 wr).mono ?_; rintro e w5 ⟨rfl, hb5⟩; have HB5 := hide ((unhide HB).trans (hb5.mono hB0)); have HT5 := hide (tabs_later (unhide HTR) hb5); clear hb5)
              | (go_at_call 10; refine (unhide HA w5 (unhide HT5)).mono ?_; rintro e w6 ⟨rfl, hb6⟩))
            go_ret
            exact ⟨rfl, (unhide HB5).trans (hb6.mono (unhide HB5).size)⟩
          · have hk2 : k2 = k + q := by have := hw2.place; omega
            have hq2 := hw2.fits
            have hp2 := hw2.pos
            have hlp2 := encL_pos hw2.word
            have hemp2 := empty_false (encL F2) hlp2
            have hsh2 := hw2.short
            have HHD2 := hide (head_decode hw2.word hw2.head)
            have HRC2 := hide (runes_conv ⟨(encL F2).toArray⟩ (by rw [len_text]; exact hlp2) (by rw [len_text]; omega))
            have HC2 := hide hc2
            by_cases hc1 : classOf r0 = 1
            · have hgo := (unhide HW).ends (by omega)
              rw [← hk2, ← hw2.first] at hgo
              have hc4 : classOf r2 = 4 := by
                rcases hw2.begins with e | e
                · unfold goesB at hgo
                  rw [hc1, if_neg (by decide), e] at hgo
                  exact absurd hgo (by decide)
                · exact e
              have HK1 := hide (class_any (foldR r0))
              have HK2 := hide (class_any (foldR r2))
              rw [class_fold, hc1] at HK1
              rw [class_fold, hc4] at HK2
              clear hc2 HC3 hw2 hgo hc1 hc4 HW HWD
              generalize hTB2 : (⟨(encL F2).toArray⟩ : ByteArray) = TB2 at *
              clear hTB2
              generalize foldR r0 = f1 at *
              generalize foldR r2 = f2 at *
              go_wp2_with (first
                | (go_at_call 9; refine (unhide HC2 wr).mono ?_; rintro e w5 ⟨rfl, hb5⟩; have HB5 := hide ((unhide HB).trans (hb5.mono hB0)); have HT5 := hide (tabs_later (unhide HTR) hb5); obtain ⟨n5, c5, W5, hn5, hcv5, hcell5, hbw5⟩ := unhide HRC w5; rw [unhide HHD] at hcell5; have HBW5 := hide ((unhide HB5).trans (hbw5.mono (unhide HB5).size)); have HTW5 := hide (tabs_later (unhide HT5) hbw5); clear hb5 hbw5)
                | (go_at_call_of 11 (Value.int .i32 f1); refine (unhide HK1 W5).mono ?_; rintro e w6 ⟨rfl, h6⟩; rw [h6]; clear h6; obtain ⟨n6, c6, W6, hn6, hcv6, hcell6, hbw6⟩ := unhide HRC2 W5; rw [unhide HHD2] at hcell6; have HBW6 := hide ((unhide HBW5).trans (hbw6.mono (unhide HBW5).size)); have HTW6 := hide (tabs_later (unhide HTW5) hbw6); clear hbw6)
                | (go_at_call_of 11 (Value.int .i32 f2); refine (unhide HK2 W6).mono ?_; rintro e w7 ⟨rfl, h7⟩; rw [h7]; clear h7)
                | (go_at_call 10; refine (unhide HA W6 (unhide HTW6)).mono ?_; rintro e w8 ⟨rfl, hb8⟩))
              go_ret
              exact ⟨rfl, (unhide HBW6).trans (hb8.mono (unhide HBW6).size)⟩
            · have hc4 : classOf r0 = 4 := by rcases (unhide HW).begins with e | e; exact absurd e hc1; exact e
              have HK1 := hide (class_any (foldR r0))
              rw [class_fold, hc4] at HK1
              clear hc2 HC3 hw2 hc1 hc4 HW HWD HRC2 HHD2 hlp2 hsh2
              generalize hTB2 : (⟨(encL F2).toArray⟩ : ByteArray) = TB2 at *
              clear hTB2
              generalize foldR r0 = f1 at *
              go_wp2_with (first
                | (go_at_call 9; refine (unhide HC2 wr).mono ?_; rintro e w5 ⟨rfl, hb5⟩; have HB5 := hide ((unhide HB).trans (hb5.mono hB0)); have HT5 := hide (tabs_later (unhide HTR) hb5); obtain ⟨n5, c5, W5, hn5, hcv5, hcell5, hbw5⟩ := unhide HRC w5; rw [unhide HHD] at hcell5; have HBW5 := hide ((unhide HB5).trans (hbw5.mono (unhide HB5).size)); have HTW5 := hide (tabs_later (unhide HT5) hbw5); clear hb5 hbw5)
                | (go_at_call_of 11 (Value.int .i32 f1); refine (unhide HK1 W5).mono ?_; rintro e w6 ⟨rfl, h6⟩; rw [h6]; clear h6)
                | (go_at_call 10; refine (unhide HA W5 (unhide HTW5)).mono ?_; rintro e w8 ⟨rfl, hb8⟩))
              go_ret
              exact ⟨rfl, (unhide HBW5).trans (hb8.mono (unhide HBW5).size)⟩
end Go.Proofs.YtiooiacebgojiabDoor

/- nat.BigText: the number of a text of digits. -/
import Derived.Test.YthcihkgellginaaDoorMem
import Derived.Test.YthcihkgellginaaDoorPlain
namespace Go.Proofs.YthcihkgellginaaDoor
open Go.RowKit

theorem Tryd.info22 : (Tryd.prog.info? 22).map (fun i => (i.zero, i.size, i.bytes)) = some (some (.int .u64 0), 1, 8) := by kernel_rfl

theorem cut_start (l : List UInt8) (n : Nat) (h : l.length = n) : (n : Int) = (n : Int) - 9 * (([] : List Nat).length : Int) ∧ Cub.limbs 1000000000 [] ∧ Cub.lval 1000000000 [] = Cub.dval (l.drop (n - 9 * ([] : List Nat).length)) := by
  subst h
  refine ⟨by simp, fun _ h => (by cases h), ?_⟩
  simp [Cub.lval, Cub.dval]

set_option maxRecDepth 100000 in
set_option maxHeartbeats 800000 in
theorem bigText_any (s : ByteArray) (w : World) (hs : s.size ≤ 1000000000) (hd : Cub.digs s.data.toList) :
    Calls Tryd.prog 62 #[.string s] w fun e w' => ∃ v, e = .returned v ∧ IsBig w' v (Cub.dval s.data.toList) ∧ Below w.heap.size w w' := by
  have HD := hide hd
  clear hd
  obtain ⟨i0, hi, hz0, hz1, hz2⟩ := info_parts Tryd.info22
  go_enter Tryd.func62, Tryd.ntmps62
  go_wp2_with (at_make; refine wpList_make_own _ rfl _ _ 58 rfl (w.heap.size + 1) 22 i0 (.int .u64 0) 1 Tryd.underlying58 hi hz0 hz1 .i64 .i64 _ (s.size / 9 + 1) rfl rfl (by omega) (by rw [hz2]; omega) (by unfold maxLen; omega) (by simp) ?_; intro w0 hown0 hgrow0)
  have hown1 : w0.ownsRow (w.heap.size + 1) 22 1 (.slice (some ⟨w.heap.size + 1, 0, none⟩) 0 (s.size / 9 + 1)) 0 (u64s []) := by simpa [u64s] using hown0
  have hb0 : Below (w.heap.size + 1) (w.alloc (.cells #[.slice none 0 0] 60)) w0 := (Below.refl _ _).grown hgrow0 (by simp) (fun k hk => by cases hk)
  clear hown0 hgrow0
  go_loopw [3, 4] (fun v i wr => ∃ (L : List Nat) (x : Int), i = .int .i64 x ∧ x ≤ 1000000000 ∧ -9 < x ∧ L.length ≤ 200000000 ∧ Hid (x = (s.size : Int) - 9 * (L.length : Int) ∧ Cub.limbs 1000000000 L ∧ Cub.lval 1000000000 L = Cub.dval (s.data.toList.drop (s.size - 9 * L.length))) ∧
      wr.ownsRow (w.heap.size + 1) 22 1 v L.length (u64s L) ∧ Below (w.heap.size + 1) (w.alloc (.cells #[.slice none 0 0] 60)) wr) (fun _ i _ => (intOf i).toNat)
  case atStart => exact ⟨[], (s.size : Int), rfl, by omega, by omega, by simp, cut_start _ _ (list_len s), hown1, hb0⟩
  case round =>
    obtain ⟨L, x, rfl, hx1, hx9, hLl, HX, hown, hb⟩ := hrel
    clear hown1 hb0
    by_cases hx : 0 < x
    · obtain ⟨e, rfl⟩ := Int.eq_ofNat_of_zero_le (Int.le_of_lt hx)
      have he0 : Hid (e + 9 * L.length = s.size) := by have := (unhide HX).1; exact (by omega : e + 9 * L.length = s.size)
      have hes : e ≤ s.size := by have := unhide he0; omega
      have HDs : Hid (∀ k (hk : k < s.size), 48 ≤ s[k].toNat ∧ s[k].toNat ≤ 57) := fun k hk => unhide HD s[k] (by rw [← list_get s k hk]; exact List.getElem_mem _)
      by_cases h9 : 9 ≤ e
      all_goals
        go_wp2
        go_loop [5, 6] (fun y i => ∃ (k n : Nat), e - 9 ≤ k ∧ k ≤ e ∧ i = .int .i64 k ∧ y = .int .u64 n ∧ n < 1000000000 ∧ Hid (n = Cub.dval ((s.data.toList.drop (e - 9)).take (k - (e - 9))))) (fun _ i => e - (intOf i).toNat)
        case atStart => exact ⟨e - 9, 0, Nat.le_refl _, by omega, by go_num, rfl, by omega, by rw [Nat.sub_self]; exact rfl⟩
        case round =>
          obtain ⟨k, n, hk1, hk2, rfl, rfl, hn, HN⟩ := hrel
          by_cases hlt : k < e
          · have hks : k < s.size := by omega
            obtain ⟨d1, d2⟩ := unhide HDs k hks
            have hn' : n < 100000000 := by rw [unhide HN]; exact Cub.seg_lt' (unhide HD) _ _ (by omega)
            have HN' : Hid (n * 10 + (s[k].toNat - 48) = Cub.dval ((s.data.toList.drop (e - 9)).take (k + 1 - (e - 9)))) := by
              rw [Cub.seg_succ _ _ _ hk1 (by rw [list_len]; exact hks), ← unhide HN]; exact rfl
            go_wp2
            go_round
            case rel => exact ⟨k + 1, n * 10 + (s[k].toNat - 48), by omega, by omega, by go_num, by go_num, by omega, HN'⟩
            case measure => simp [intOf]; omega
          · have hke : k = e := by omega
            subst hke
            clear hlt
            go_wp2_with (at_builtin; refine wpList_append_own _ rfl _ _ 58 rfl (w.heap.size + 1) 22 i0 (.int .u64 0) 1 8 Tryd.underlying58 hi hz0 hz1 hz2 rfl (by decide) _ _ _ rfl (hown.alloc _) ⟨wr.heap.size, 0, none⟩ 1 1 [.int .u64 (n : Int)] rfl rfl (cell_one_new _ _ _) (fun x hx => by simp at hx; subst hx; rfl) (by unfold maxLen; omega) (by omega) (by have := hb.size; simp at this ⊢; omega) ?_; intro v' w1 hown' hgrow _)
            have hsz := hb.size
            have hb' : Below (w.heap.size + 1) (w.alloc (.cells #[.slice none 0 0] 60)) w1 := (hb.alloc (by simp at hsz; omega) _).grown hgrow (by simp at hsz ⊢; omega) (fun j hj => (hown.lt j hj).1)
            have hown2 : w1.ownsRow (w.heap.size + 1) 22 1 v' (L ++ [n]).length (u64s (L ++ [n])) := by simpa [u64s] using hown'
            have HS := Cub.cut_step s.data.toList L k (k - 9) (by rw [list_len]; exact unhide he0) rfl (unhide HD) (unhide HX).2.1 (by have := (unhide HX).2.2; rw [this]; congr 2; have := unhide he0; omega)
            rw [← unhide HN] at HS
            have HS' := hide HS
            clear hgrow hown' HS hown hsz
            go_wp2
            go_roundw
            case rel => exact ⟨L ++ [n], (k : Int) - 9, rfl, by omega, by omega, by have := unhide he0; simp; omega, ⟨by have := unhide he0; simp; omega, (unhide HS').1, by rw [(unhide HS').2]; congr 2; have := unhide he0; simp; omega⟩, hown2, hb'⟩
            case measure => simp [intOf]; omega
    · have hfin : Cub.lval 1000000000 (Cub.trimN L) = Cub.dval s.data.toList ∧ Cub.normal 1000000000 (Cub.trimN L) := by
        obtain ⟨h1, h2, h3⟩ := unhide HX
        obtain ⟨t1, t2, _⟩ := Cub.lval_trim 1000000000 _ L rfl
        refine ⟨?_, t2 h2⟩
        rw [t1, h3, show s.size - 9 * L.length = 0 by omega, List.drop_zero]
      have HF := hide hfin
      have hrow := Row.of_own hown
      have HRow := hide hrow
      have HOwn := hide hown
      have hsz : w.heap.size + 1 ≤ wr.heap.size := by have := hb.size; simpa using this
      have hc0 : wr.cell? ⟨w.heap.size, 0, none⟩ = some (.slice none 0 0) := by rw [hb.cell (p := ⟨w.heap.size, 0, none⟩) (by simp)]; simp
      have hf0 : wr.frozen? ⟨w.heap.size, 0, none⟩ = false := by rw [hb.frozen (p := ⟨w.heap.size, 0, none⟩) (by simp)]; simp
      clear hfin hrow hown
      go_wp2_with (go_at_call 74; refine (trim_any _ L _ (unhide HRow)).mono ?_; rintro e w2 ⟨v', rfl, hrow2, hb2⟩; obtain ⟨a2, cap2, rfl, hcap2⟩ := hrow2.form; obtain ⟨hc2, hf2⟩ := box_later hb2 hsz hc0 hf0)
      refine bodyPost_ret (v := .agg #[.slice a2 (Cub.trimN L).length cap2]) (by simp [results, Tryd.results62, go_sem, hc2]) rfl ⟨_, rfl, ?_, ?_⟩
      · exact ⟨_, _, rfl, hrow2.box _ hc2 (fun _ _ h => by cases h), (unhide HF).2, (unhide HF).1⟩
      · exact (((Below.refl _ _).alloc (Nat.le_refl _) _).trans ((hb.trans (hb2.mono hsz)).mono (Nat.le_succ _))).setCell (Nat.le_refl _) _
end Go.Proofs.YthcihkgellginaaDoor

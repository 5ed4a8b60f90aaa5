/- The document's own cut of digits into limbs of four. -/
import Derived.Test.YthcihkgellginaaDoorRefMem
namespace Go.Proofs.YthcihkgellginaaDoor
open Go.RowKit

theorem cut4_start (l : List UInt8) (n : Nat) (h : l.length = n) : (n : Int) = (n : Int) - 4 * (([] : List Nat).length : Int) ∧ Cub.limbs 10000 [] ∧ Cub.lval 10000 [] = Cub.dval (l.drop (n - 4 * ([] : List Nat).length)) := by
  subst h
  refine ⟨by simp, fun _ h => (by cases h), ?_⟩
  simp [Cub.lval, Cub.dval]

set_option maxRecDepth 100000 in
set_option maxHeartbeats 800000 in
theorem refLimbs_any (s : ByteArray) (w : World) (hs : s.size ≤ 1000000000) (hd : Cub.digs s.data.toList) :
    Calls Tryd.prog 75 #[.string s] w fun e w' => ∃ v l, e = .returned v ∧ OwnI w' w.heap.size v l ∧ Cub.normal 10000 l ∧ Cub.lval 10000 l = Cub.dval s.data.toList ∧ Below w.heap.size w w' := by
  have HD := hide hd
  clear hd
  obtain ⟨i0, hi, hz0, hz1, hz2⟩ := info_parts Tryd.info3
  go_enter Tryd.func75, Tryd.ntmps75
  go_wp2
  go_loopw [3, 4] (fun v i wr => ∃ (L : List Nat) (x : Int), i = .int .i64 x ∧ x ≤ 1000000000 ∧ -4 < x ∧ L.length ≤ 400000000 ∧ Hid (x = (s.size : Int) - 4 * (L.length : Int) ∧ Cub.limbs 10000 L ∧ Cub.lval 10000 L = Cub.dval (s.data.toList.drop (s.size - 4 * L.length))) ∧
      wr.ownsRow w.heap.size 3 1 v L.length (i64s L) ∧ Below w.heap.size w wr) (fun _ i _ => (intOf i).toNat)
  case atStart => exact ⟨[], (s.size : Int), rfl, by omega, by omega, by simp, cut4_start _ _ (list_len s), World.ownsRow_nil _ _ _ _, Below.refl _ _⟩
  case round =>
    obtain ⟨L, x, rfl, hx1, hx4, hLl, HX, hown, hb⟩ := hrel
    by_cases hx : 0 < x
    · obtain ⟨e, rfl⟩ := Int.eq_ofNat_of_zero_le (Int.le_of_lt hx)
      have he0 : Hid (e + 4 * L.length = s.size) := by have := (unhide HX).1; exact (by omega : e + 4 * L.length = s.size)
      have hes : e ≤ s.size := by have := unhide he0; omega
      have HDs : Hid (∀ k (hk : k < s.size), 48 ≤ s[k].toNat ∧ s[k].toNat ≤ 57) := fun k hk => unhide HD s[k] (by rw [← list_get s k hk]; exact List.getElem_mem _)
      by_cases h4 : 4 ≤ e
      all_goals
        go_wp2
        go_loop [6, 7] (fun y i => ∃ (k n : Nat), e - 4 ≤ k ∧ k ≤ e ∧ i = .int .i64 k ∧ y = .int .i64 n ∧ n < 10000 ∧ Hid (n = Cub.dval ((s.data.toList.drop (e - 4)).take (k - (e - 4))))) (fun _ i => e - (intOf i).toNat)
        case atStart => exact ⟨e - 4, 0, Nat.le_refl _, by omega, by go_num, rfl, by omega, by rw [Nat.sub_self]; exact rfl⟩
        case round =>
          obtain ⟨k, n, hk1, hk2, rfl, rfl, hn, HN⟩ := hrel
          by_cases hlt : k < e
          · have hks : k < s.size := by omega
            obtain ⟨d1, d2⟩ := unhide HDs k hks
            have HN' : Hid (10 * n + (s[k].toNat - 48) = Cub.dval ((s.data.toList.drop (e - 4)).take (k + 1 - (e - 4)))) := by
              rw [Cub.seg_succ _ _ _ hk1 (by rw [list_len]; exact hks), ← unhide HN, Nat.mul_comm]; exact rfl
            have hn' : 10 * n + (s[k].toNat - 48) < 10000 := by rw [unhide HN']; exact Cub.seg4_lt (unhide HD) _ _ (by omega)
            go_wp2
            go_round
            case rel => exact ⟨k + 1, 10 * n + (s[k].toNat - 48), by omega, by omega, by go_num, by go_num, hn', HN'⟩
            case measure => simp [intOf]; omega
          · have hke : k = e := by omega
            subst hke
            clear hlt
            go_wp2_with (at_builtin; refine wpList_append_own _ rfl _ _ 78 rfl w.heap.size 3 i0 (.int .i64 0) 1 8 Tryd.underlying78 hi hz0 hz1 hz2 rfl (by decide) _ _ _ rfl (hown.alloc _) ⟨wr.heap.size, 0, none⟩ 1 1 [.int .i64 (n : Int)] rfl rfl (cell_one_new _ _ _) (fun x hx => by simp at hx; subst hx; rfl) (by unfold maxLen; omega) (by omega) (by have := hb.size; simp at this ⊢; omega) ?_; intro v' w1 hown' hgrow _)
            have hsz := hb.size
            have hb' : Below w.heap.size w w1 := (hb.alloc hsz _).grown hgrow (by simp; omega) (fun j hj => (hown.lt j hj).1)
            have hown2 : w1.ownsRow w.heap.size 3 1 v' (L ++ [n]).length (i64s (L ++ [n])) := by simpa [i64s] using hown'
            have HS := Cub.cut4_step s.data.toList L k (k - 4) (by rw [list_len]; exact unhide he0) rfl (unhide HD) (unhide HX).2.1 (by have := (unhide HX).2.2; rw [this]; congr 2; have := unhide he0; omega)
            rw [← unhide HN] at HS
            have HS' := hide HS
            clear hgrow hown' HS hown hsz
            go_wp2
            go_roundw
            case rel => exact ⟨L ++ [n], (k : Int) - 4, rfl, by omega, by omega, by have := unhide he0; simp; omega, ⟨by have := unhide he0; simp; omega, (unhide HS').1, by rw [(unhide HS').2]; congr 2; have := unhide he0; simp; omega⟩, hown2, hb'⟩
            case measure => simp [intOf]; omega
    · have hfin : Cub.lval 10000 (Cub.trimN L) = Cub.dval s.data.toList ∧ Cub.normal 10000 (Cub.trimN L) := by
        obtain ⟨h1, h2, h3⟩ := unhide HX
        obtain ⟨t1, t2, _⟩ := Cub.lval_trim 10000 _ L rfl
        refine ⟨?_, t2 h2⟩
        rw [t1, h3, show s.size - 4 * L.length = 0 by omega, List.drop_zero]
      have HF := hide hfin
      have HO : Hid (OwnI wr w.heap.size u3 L) := hown
      clear hfin hown
      go_wp2_with (go_at_call 77; refine (refTrim_any _ _ L _ (unhide HO)).mono ?_; rintro e w2 ⟨v', rfl, hrow2, rfl⟩)
      go_ret
      exact ⟨v', _, rfl, hrow2, (unhide HF).2, (unhide HF).1, hb⟩
end Go.Proofs.YthcihkgellginaaDoor

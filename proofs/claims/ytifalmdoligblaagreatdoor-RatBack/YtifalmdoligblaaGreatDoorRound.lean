/- rat.Round. -/
import Derived.Test.YtifalmdoligblaaGreatDoorFieldM
import Derived.Test.YtifalmdoligblaaGreatDoorRefNear
import Derived.Lib.ConvBytes
import Derived.Test.YtifalmdoligblaaGreatDoorLast
import Derived.Test.YtifalmdoligblaaGreatDoorFracAny
import Derived.Test.YtifalmdoligblaaGreatDoorPairs
import Derived.Test.YtifalmdoligblaaGreatDoorQuo
namespace Go.Proofs.YtifalmdoligblaaGreatDoor
open Go.RowKit

/-- Bytes in a block. -/
structure BR (W : World) (g : Nat) (L : List UInt8) : Prop where
  c : ∀ k (h : k < L.length), W.cell? ⟨g, k, none⟩ = some (.int .u8 (L[k].toNat : Int))
  f : ∀ k, k < L.length → W.frozen? ⟨g, k, none⟩ = false
theorem BR.drew {W : World} {g : Nat} {L : List UInt8} (h : BR W g L) : BR W.drew g L := ⟨fun k hk => by simpa [go_sem] using h.c k hk, fun k hk => by simpa [go_sem] using h.f k hk⟩
theorem BR.new (W : World) (s : ByteArray) : BR (Lib.bytesWorld W 5 s) W.heap.size s.data.toList := by
  refine ⟨fun k hk => ?_, fun k hk => ?_⟩
  · have hs : k < s.size := by rw [← list_len]; exact hk
    rw [Lib.bytesWorld_cell W 5 s k hs, List.getD_eq_getElem?_getD, List.getElem?_eq_getElem hk]
    rfl
  · have hs : s.size ≤ (Lib.bytesCells W 5 s).size := by unfold Lib.bytesCells; simp
    have hk' : k < s.size := by rw [← list_len]; exact hk
    simp [World.frozen?, Lib.bytesWorld_at_new]
    omega
/-- A piece written over. -/
def over (L M : List UInt8) (o : Nat) : List UInt8 := L.take o ++ M ++ L.drop (o + M.length)
theorem over_length {L M : List UInt8} {o : Nat} (h : o + M.length ≤ L.length) : (over L M o).length = L.length := by
  unfold over; simp; omega
theorem over_in {L M : List UInt8} {o : Nat} (ho : o + M.length ≤ L.length) {j : Nat} (hj : j < M.length) : (over L M o)[o + j]? = some M[j] := by
  unfold over
  rw [List.getElem?_append_left (by simp; omega), List.getElem?_append_right (by simp; omega)]
  rw [show o + j - (List.take o L).length = j from by simp; omega, List.getElem?_eq_getElem hj]
theorem over_out {L M : List UInt8} {o : Nat} (ho : o + M.length ≤ L.length) {k : Nat} (hk : k < L.length) (h : k < o ∨ o + M.length ≤ k) : (over L M o)[k]? = some L[k] := by
  unfold over
  rcases h with h | h
  · rw [List.getElem?_append_left (by simp; omega), List.getElem?_append_left (by simp; omega), List.getElem?_take_of_lt h, List.getElem?_eq_getElem hk]
  · rw [List.getElem?_append_right (by simp; omega), List.getElem?_drop]
    rw [show o + M.length + (k - (List.take o L ++ M).length) = k from by simp; omega, List.getElem?_eq_getElem hk]
theorem get_of {L : List UInt8} {k : Nat} {x : UInt8} (hk : k < L.length) (h : L[k]? = some x) : L[k] = x := by
  rw [List.getElem?_eq_getElem hk] at h; exact Option.some.inj h
theorem BR.put {W : World} {g : Nat} {L : List UInt8} (h : BR W g L) (M : List UInt8) (o : Nat) (ho : o + M.length ≤ L.length) : BR (W.setCells g o (M.map fun x => Value.int .u8 (x.toNat : Int))) g (over L M o) := by
  have hl := over_length ho
  refine ⟨fun k hk => ?_, fun k hk => by rw [World.frozen?_setCells]; exact h.f k (by omega)⟩
  by_cases hin : o ≤ k ∧ k < o + M.length
  · obtain ⟨j, rfl⟩ : ∃ j, k = o + j := ⟨k - o, by omega⟩
    have hj' : j < M.length := by omega
    have hj : j < (M.map fun x => Value.int .u8 (x.toNat : Int)).length := by rw [List.length_map]; exact hj'
    rw [World.cell?_setCells_in g _ o W (fun i hi => by rw [List.length_map] at hi; rw [h.c (o + i) (by omega)]; rfl) j hj]
    rw [List.getElem_map, get_of hk (over_in ho hj')]
  · rw [World.cell?_setCells_out g _ o W ⟨g, k, none⟩ (fun _ _ => by rw [List.length_map]; show k < o ∨ _ ≤ k; omega), h.c k (by omega), get_of hk (over_out ho (by omega) (by omega))]
theorem BR.set {W : World} {g : Nat} {L : List UInt8} (h : BR W g L) (o : Nat) (x : UInt8) (ho : o < L.length) : BR (W.setCell ⟨g, o, none⟩ (.int .u8 (x.toNat : Int))) g (over L [x] o) := h.put [x] o (by simp only [List.length_cons, List.length_nil]; omega)
/-- Noughts ahead, where there are too few digits. -/
def padZ (s : List UInt8) (p : Nat) : List UInt8 := List.replicate (p + 1 - s.length) 48 ++ s
/-- A point ahead of the last p digits. -/
def pt (s : List UInt8) (p : Nat) : List UInt8 := (padZ s p).take ((padZ s p).length - p) ++ [46] ++ (padZ s p).drop ((padZ s p).length - p)
theorem repeat48 (n : Nat) : Lib.repeatL (⟨#[48]⟩ : ByteArray).data.toList n = List.replicate n 48 := by
  induction n with
  | zero => rfl
  | succ n ih => rw [Lib.repeatL, ih]; rfl

theorem over_split (A B C M : List UInt8) (o : Nat) (ho : o = A.length) (h : B.length = M.length) : over (A ++ B ++ C) M o = A ++ M ++ C := by
  unfold over
  subst ho
  rw [List.append_assoc A B C, List.take_left, List.drop_append, List.drop_of_length_le (by omega), List.nil_append, Nat.add_sub_cancel_left, ← h, List.drop_left]
theorem over_nil (L : List UInt8) (o : Nat) : over L [] o = L := by unfold over; simp
theorem over_three (s : List UInt8) (p n q ah o1 o3 : Nat) (hp : 1 ≤ p) (hn4 : p + 2 ≤ n) (hl : (s.length = ah + p ∧ n = s.length + 1 ∧ q = ah) ∨ (ah = 0 ∧ s.length ≤ p ∧ n = p + 2 ∧ q = 1)) (h1 : o1 = q - ah) (h3 : o3 = n - (s.length - ah)) :
    over (over (over (List.replicate n 48) (s.take ah) o1) [46] q) (s.drop ah) o3 = pt s p := by
  rcases hl with ⟨e1, e2, e3⟩ | ⟨e1, e2, e3, e4⟩
  · have ht : (s.take ah).length = ah := by simp; omega
    have a1 : over (List.replicate n 48) (s.take ah) o1 = s.take ah ++ [48] ++ List.replicate p 48 := by
      have := over_split [] (List.replicate ah 48) ([48] ++ List.replicate p 48) (s.take ah) o1 (by simp; omega) (by simp; omega)
      rw [List.nil_append, List.nil_append] at this
      rw [List.append_assoc, ← this]
      congr 1
      rw [show n = ah + (1 + p) by omega, ← List.replicate_append_replicate, ← List.replicate_append_replicate]
      rfl
    rw [a1, over_split (s.take ah) [48] (List.replicate p 48) [46] q (by omega) rfl]
    have a3 := over_split (s.take ah ++ [46]) (List.replicate p 48) [] (s.drop ah) o3 (by simp; omega) (by simp; omega)
    rw [List.append_nil, List.append_nil] at a3
    rw [a3]
    unfold pt
    have hz : padZ s p = s := by unfold padZ; rw [show p + 1 - s.length = 0 by omega]; rfl
    rw [hz, show s.length - p = ah by omega]
  · subst e1 e4
    rw [List.take_zero, over_nil, List.drop_zero]
    have a2 := over_split [48] [48] (List.replicate p 48) [46] 1 rfl rfl
    rw [show List.replicate n (48 : UInt8) = [48] ++ [48] ++ List.replicate p 48 from by rw [e3, Nat.add_comm]; rw [← List.replicate_append_replicate]; rfl, a2]
    have a3 := over_split ([48] ++ [46] ++ List.replicate (p - s.length) 48) (List.replicate s.length 48) [] s o3 (by simp; omega) (by simp)
    rw [List.append_nil, List.append_nil, List.append_assoc, List.replicate_append_replicate, show p - s.length + s.length = p by omega] at a3
    rw [a3]
    unfold pt
    have hz : padZ s p = [48] ++ (List.replicate (p - s.length) 48 ++ s) := by
      unfold padZ
      rw [show p + 1 - s.length = 1 + (p - s.length) by omega, ← List.replicate_append_replicate, List.append_assoc]; rfl
    have hzl : (padZ s p).length = p + 1 := by unfold padZ; simp; omega
    rw [hzl, show p + 1 - p = 1 by omega, hz]
    simp

set_option maxRecDepth 100000 in
set_option maxHeartbeats 2000000 in
theorem pointed_any (s : ByteArray) (p : Nat) (w : World) (hp : 1 ≤ p) (hp2 : p ≤ 100000) (hs : s.size ≤ 100000) (hs1 : 1 ≤ s.size) :
    Calls Tryz.prog 89 #[.string s, .int .i64 (p : Int)] w fun r w' => r = .returned (.string ⟨(pt s.data.toList p).toArray⟩) ∧ Below w.heap.size w w' := by
  obtain ⟨n, hn⟩ : ∃ n, n = max s.size (p + 1) + 1 := ⟨_, rfl⟩
  have hmx : max (s.size : Int) ((p : Int) + 1) = (n : Int) - 1 := by omega
  obtain ⟨z, hz⟩ : ∃ z : ByteArray, z = ⟨(List.replicate n 48).toArray⟩ := ⟨_, rfl⟩
  have hzs : z.size = n := by rw [hz]; show (List.replicate n (48 : UInt8)).toArray.size = n; simp
  have H143 : Hid (∀ W, Calls Tryz.prog 143 #[.string ⟨#[48]⟩, .int .i64 (n : Int)] W fun e w' => e = .returned (.string z) ∧ Below W.heap.size W w') := fun W => by
    have := Tryz.strings_Repeat ⟨#[48]⟩ n W (by omega) (by show 1 * n ≤ _; omega)
    rw [repeat48] at this
    rw [hz]; exact this
  have hcv : ∀ W : World, (convert 9 130 (.string z)).run Tryz.prog W = .ok (.slice (some ⟨W.heap.size, 0, none⟩) n (grownCap W n 0 5)) (Lib.bytesWorld W 5 z) := fun W => by
    have := Lib.run_convert_string_bytes (P := Tryz.prog) W 9 130 5 z Tryz.underlying9 Tryz.underlying130 Tryz.underlying5
    rwa [hzs] at this
  have HZL : Hid (z.data.toList = List.replicate n 48) := by rw [hz]; exact rfl
  have HN := hide hn
  have hp0 : ((p : Int) == 0) = false := by rw [beq_eq_false_iff_ne]; omega
  have hn1 : (n : Int) - 1 + 1 = (n : Int) := by omega
  have hn3 : n ≤ 200000 := by omega
  have hn4 : p + 2 ≤ n := by omega
  have hn5 : s.size + 1 ≤ n := by omega
  clear hn hz hzs
  go_enter Tryz.func89, Tryz.ntmps89
  go_upto_region 6 with (go_at_call 143; go_must (refine (unhide H143 _).mono ?_; rintro e w1 ⟨rfl, hb1⟩; have HB1 := hide hb1; clear hb1))
  obtain ⟨q, hq⟩ : ∃ q : Nat, (n : Int) - (p : Int) - 1 = (q : Int) := ⟨n - p - 1, by omega⟩
  obtain ⟨ah, ha⟩ : ∃ ah : Nat, max ((s.size : Int) - (p : Int)) 0 = (ah : Int) := ⟨s.size - p, by omega⟩
  have HLIST : Hid ((s.size = ah + p ∧ n = s.size + 1 ∧ q = ah) ∨ (ah = 0 ∧ s.size ≤ p ∧ n = p + 2 ∧ q = 1)) := by have := unhide HN; show _ ∨ _; omega
  have haq : ah ≤ q := by have := unhide HLIST; omega
  obtain ⟨o1, ho1⟩ : ∃ o1 : Nat, (q : Int) - (ah : Int) = (o1 : Int) := ⟨q - ah, by omega⟩
  have hqn : q < n := by have := unhide HLIST; omega
  have hah : ah < s.size := by have := unhide HLIST; omega
  have ho1n : o1 < n := by omega
  obtain ⟨U, hU⟩ : ∃ U, U = Lib.bytesWorld w1 5 z := ⟨_, rfl⟩
  obtain ⟨C, hC⟩ : ∃ C, C = grownCap w1 n 0 5 := ⟨_, rfl⟩
  have hCn : n ≤ C := by rw [hC]; exact grownCap_ge w1 n 0 5
  have HR : Hid (BR U w1.heap.size (List.replicate n 48) ∧ Below w.heap.size w U ∧ w.heap.size ≤ w1.heap.size) := by
    rw [hU, ← unhide HZL]; exact ⟨BR.new w1 z, (unhide HB1).trans ((Lib.bytesWorld_below w1 5 _).mono (unhide HB1).size), (unhide HB1).size⟩
  rw [← hU, ← hC, hq, ha]
  clear hU hC hcv H143 HB1 HZL HN
  generalize w1.heap.size = g at *
  have hz : ∀ w, (Go.sizeOf 5).run Tryz.prog w = .ok 1 w := fun _ => by kernel_rfl
  have hx1 : (s.extract 0 ah).data.toList = s.data.toList.take ah := by simp
  have hcp : (Builtin.copy_ #[130, 9] 3 #[.slice (some ⟨g, o1, none⟩) (n - o1) (C - o1), .string (s.extract 0 ah)]).run Tryz.prog U.drew = .ok (.int .i64 (ah : Int)) (U.drew.setCells g o1 ((s.data.toList.take ah).map fun x => Value.int .u8 (x.toNat : Int))) := by
    have hsz : (s.extract 0 ah).size = ah := by simp; omega
    have h := run_copy_string (P := Tryz.prog) U.drew 130 9 3 5 g o1 (n - o1) (C - o1) (s.extract 0 ah) Tryz.underlying130 hz (by rw [hsz]; omega) (fun j hj => ?_) (fun j hj => ?_)
    · rw [hx1, hsz] at h; exact h
    · rw [hsz] at hj
      rw [(unhide HR).1.drew.c (o1 + j) (by simp; omega)]; rfl
    · rw [hsz] at hj
      exact (unhide HR).1.drew.f (o1 + j) (by simp; omega)
  have k0 : ¬ C = o1 := by omega
  have k1 : (o1 : Int) ≤ (n : Int) := by omega
  have k2 : (ah : Int) ≤ (s.size : Int) := by omega
  have k3 : (n : Int) ≤ (C : Int) := by omega
  go_region
  obtain ⟨V1, hV1⟩ : ∃ V1, V1 = U.drew.setCells g o1 (List.take ah (List.map (fun x => Value.int .u8 (x.toNat : Int)) s.data.toList)) := ⟨_, rfl⟩
  obtain ⟨L1, hL1⟩ : ∃ L1, L1 = over (List.replicate n 48) (s.data.toList.take ah) o1 := ⟨_, rfl⟩
  have hl1 : L1.length = n := by rw [hL1, over_length (by simp; omega)]; simp
  have hgw := (unhide HR).2.2
  have HR1 : Hid (BR V1 g L1 ∧ Below w.heap.size w V1) := by
    rw [hV1, hL1, ← List.map_take]
    exact ⟨(unhide HR).1.drew.put _ _ (by simp; omega), below_setCells hgw _ _ _ ((unhide HR).2.1.drew)⟩
  rw [← hV1]
  clear hV1 hcp HR hx1
  have q1 := (unhide HR1).1.c q (by omega); have f1 := (unhide HR1).1.f q (by omega)
  have kq : (q : Int) < (n : Int) := by omega
  go_upto_region 8 with fail
  obtain ⟨V2, hV2⟩ : ∃ V2, V2 = V1.setCell ⟨g, q, none⟩ (.int .u8 46) := ⟨_, rfl⟩
  obtain ⟨L2, hL2⟩ : ∃ L2, L2 = over L1 [46] q := ⟨_, rfl⟩
  have hl2 : L2.length = n := by rw [hL2, over_length (by simp only [List.length_cons, List.length_nil]; omega), hl1]
  have HR2 : Hid (BR V2 g L2 ∧ Below w.heap.size w V2) := by rw [hV2, hL2]; exact ⟨(unhide HR1).1.set q 46 (by omega), (unhide HR1).2.setCell (p := ⟨g, q, none⟩) hgw _⟩
  rw [← hV2]
  clear hV2 HR1 q1 f1
  obtain ⟨o3, ho3⟩ : ∃ o3 : Nat, (n : Int) - ((s.size : Int) - (ah : Int)) = (o3 : Int) := ⟨n - (s.size - ah), by omega⟩
  have ho3n : o3 < n := by omega
  have hx2 : (s.extract ah s.size).data.toList = s.data.toList.drop ah := by
    simp
    rw [List.take_of_length_le (by simp)]
  have hcp : (Builtin.copy_ #[130, 9] 3 #[.slice (some ⟨g, o3, none⟩) (n - o3) (C - o3), .string (s.extract ah s.size)]).run Tryz.prog V2.drew = .ok (.int .i64 ((s.size - ah : Nat) : Int)) (V2.drew.setCells g o3 ((s.data.toList.drop ah).map fun x => Value.int .u8 (x.toNat : Int))) := by
    have hsz : (s.extract ah s.size).size = s.size - ah := by simp
    have h := run_copy_string (P := Tryz.prog) V2.drew 130 9 3 5 g o3 (n - o3) (C - o3) (s.extract ah s.size) Tryz.underlying130 hz (by rw [hsz]; omega) (fun j hj => ?_) (fun j hj => ?_)
    · rw [hx2, hsz] at h; exact h
    · rw [hsz] at hj
      rw [(unhide HR2).1.drew.c (o3 + j) (by omega)]; rfl
    · rw [hsz] at hj
      exact (unhide HR2).1.drew.f (o3 + j) (by omega)
  have k0 : ¬ C = o3 := by omega
  have k1 : (o3 : Int) ≤ (n : Int) := by omega
  go_region
  obtain ⟨V3, hV3⟩ : ∃ V3, V3 = V2.drew.setCells g o3 (List.drop ah (List.map (fun x => Value.int .u8 (x.toNat : Int)) s.data.toList)) := ⟨_, rfl⟩
  have HL3 : Hid (over L2 (s.data.toList.drop ah) o3 = pt s.data.toList p) := by
    rw [hL2, hL1]
    have hl := unhide HLIST
    rw [← list_len] at hl
    exact over_three s.data.toList p n q ah o1 o3 hp hn4 hl (by omega) (by rw [list_len]; omega)
  have HR3 : Hid (BR V3 g (pt s.data.toList p) ∧ Below w.heap.size w V3) := by
    rw [hV3, ← unhide HL3, ← List.map_drop]
    exact ⟨(unhide HR2).1.drew.put _ _ (by simp; omega), below_setCells hgw _ _ _ ((unhide HR2).2.drew)⟩
  have hl3 : (pt s.data.toList p).length = n := by rw [← unhide HL3, over_length (by simp; omega), hl2]
  rw [← hV3]
  clear hV3 hcp HR2 hx2 HL3 hL1 hL2
  obtain ⟨L, hL⟩ : ∃ L, L = pt s.data.toList p := ⟨_, rfl⟩
  rw [← hL] at HR3 hl3
  have HLL := hide hL
  clear hL
  have hback := run_convert_bytes_back (P := Tryz.prog) V3 130 9 5 ⟨g, 0, none⟩ C L Tryz.underlying130 Tryz.underlying5 Tryz.underlying9 (fun k hk => by
    rw [Lib.add_plain, Nat.zero_add]
    exact (unhide HR3).1.c k hk)
  rw [hl3] at hback
  go_wp2
  go_ret
  exact ⟨by rw [← unhide HLL]; rfl, (unhide HR3).2⟩
end Go.Proofs.YtifalmdoligblaaGreatDoor

namespace Go.Proofs.YtifalmdoligblaaGreatDoor
open Go.RowKit

/-- A number times ten to the p: what is divided, and by what. -/
def rN (n : Nat) (p : Int) : Nat := if p < 0 then n else n * 10 ^ p.toNat
def rD (d : Nat) (p : Int) : Nat := if p < 0 then d * 10 ^ (-p).toNat else d
/-- How many steps are nearest. -/
def stepsN (x : Rat) (p : Int) : Nat := nearN (rN x.num.natAbs p) (rD x.den p)
/-- Rounded to p places. -/
def roundM (x : Rat) (p : Int) : Nat := if p < 0 then stepsN x p * 10 ^ (-p).toNat else stepsN x p
def roundD (p : Int) : Nat := if p < 0 then 1 else 10 ^ p.toNat
def roundQ (x : Rat) (p : Int) : Rat := Cub.valQ (decide (x < 0)) (roundM x p) (roundD p)
theorem nearN_le (N D : Nat) : nearN N D ≤ N + 1 := by
  unfold nearN
  have := Nat.div_le_self N D
  split <;> omega
theorem roundD_pos (p : Int) : 0 < roundD p := by
  unfold roundD
  split
  · omega
  · exact Nat.pos_of_ne_zero (by simp)
section
variable {x : Rat} {p : Int} {d e : Nat}
theorem rN_lt (hx : Bd d x) (hp2 : p ≤ (e : Int)) : rN x.num.natAbs p < 10 ^ (d + e) := by
  unfold rN
  split
  · exact Nat.lt_of_lt_of_le hx.1 (Nat.pow_le_pow_right (by omega) (by omega))
  · rw [Nat.pow_add]
    exact Nat.lt_of_le_of_lt (Nat.mul_le_mul_left _ (Nat.pow_le_pow_right (by omega) (show p.toNat ≤ e by omega))) ((Nat.mul_lt_mul_right (Nat.pos_of_ne_zero (by simp))).2 hx.1)
theorem rD_lt (hx : Bd d x) (hp1 : -(e : Int) ≤ p) : rD x.den p < 10 ^ (d + e) := by
  unfold rD
  split
  · rw [Nat.pow_add]
    exact Nat.lt_of_le_of_lt (Nat.mul_le_mul_left _ (Nat.pow_le_pow_right (by omega) (show (-p).toNat ≤ e by omega))) ((Nat.mul_lt_mul_right (Nat.pos_of_ne_zero (by simp))).2 hx.2)
  · exact Nat.lt_of_lt_of_le hx.2 (Nat.pow_le_pow_right (by omega) (by omega))
theorem rD_pos (x : Rat) (p : Int) : 0 < rD x.den p := by
  unfold rD
  split
  · exact Nat.mul_pos x.den_pos (Nat.pos_of_ne_zero (by simp))
  · exact x.den_pos
theorem stepsN_lt (hx : Bd d x) (hp2 : p ≤ (e : Int)) : stepsN x p < 10 ^ (d + e + 1) := by
  have h1 := rN_lt (e := e) hx hp2
  have h2 := nearN_le (rN x.num.natAbs p) (rD x.den p)
  unfold stepsN
  have h3 : 0 < 10 ^ (d + e) := Nat.pos_of_ne_zero (by simp)
  rw [Nat.pow_succ]
  omega
theorem roundM_lt (hx : Bd d x) (hp1 : -(e : Int) ≤ p) (hp2 : p ≤ (e : Int)) : roundM x p < 10 ^ (d + e + 1) := by
  unfold roundM
  split
  · rename_i hp
    have h1 : stepsN x p < 10 ^ (d + 1) := by
      have := stepsN_lt (e := 0) hx (show p ≤ ((0 : Nat) : Int) by omega)
      simpa using this
    rw [show d + e + 1 = (d + 1) + e by omega, Nat.pow_add]
    exact Nat.lt_of_le_of_lt (Nat.mul_le_mul_left _ (Nat.pow_le_pow_right (by omega) (show (-p).toNat ≤ e by omega))) ((Nat.mul_lt_mul_right (Nat.pos_of_ne_zero (by simp))).2 h1)
  · exact stepsN_lt hx hp2
theorem roundD_lt (hp2 : p ≤ (e : Int)) : roundD p < 10 ^ (d + e + 1) := by
  unfold roundD
  split
  · exact Nat.one_lt_pow (by omega) (by omega)
  · exact Nat.pow_lt_pow_right (by omega) (by omega)
end
end Go.Proofs.YtifalmdoligblaaGreatDoor

namespace Go.Proofs.YtifalmdoligblaaGreatDoor
open Go.RowKit

theorem pow_limbs {n e k : Nat} (h : n < 10 ^ e) (hk : e ≤ 9 * k) : n < 1000000000 ^ k := by
  have : (1000000000 : Nat) ^ k = 10 ^ (9 * k) := by rw [Nat.pow_mul]
  rw [this]
  exact Nat.lt_of_lt_of_le h (Nat.pow_le_pow_right (by omega) hk)
/-- The arguments, a Frac, and two numbers in their boxes. -/
structure NumDen (w W : World) (n1 d1 : ByteArray) (g6 : Nat) (x y z : Value) (g8 g9 : Nat) (u v : Value) : Prop where
  n : N1 w W (.string n1) (.string d1)
  f : FBox W g6 x y z
  p : Box W g8 u
  q : Box W g9 v
  ne : g8 ≠ g9
  h6 : w.heap.size + 1 < g6
  h8 : w.heap.size + 1 < g8
  h9 : w.heap.size + 1 < g9
  n68 : g6 ≠ g8
  n69 : g6 ≠ g9
theorem N1.otherBox {w W : World} {x y : Value} (h : N1 w W x y) {g : Nat} (hg : w.heap.size + 1 < g) (u : Value) : N1 w (W.setCell ⟨g, 0, none⟩ u) x y :=
  ⟨h.a.otherAt (by omega) u, h.r.otherAt (by omega) u, h.below.setCell (p := ⟨g, 0, none⟩) (by show w.heap.size ≤ g; omega) u⟩
section
variable {w W V : World} {n1 d1 : ByteArray} {g6 g8 g9 : Nat} {x y z u v : Value}
theorem NumDen.later (h : NumDen w W n1 d1 g6 x y z g8 g9 u v) (hb : Below W.heap.size W V) : NumDen w V n1 d1 g6 x y z g8 g9 u v :=
  ⟨h.n.later hb, h.f.later hb, h.p.later hb, h.q.later hb, h.ne, h.h6, h.h8, h.h9, h.n68, h.n69⟩
theorem NumDen.setP (h : NumDen w W n1 d1 g6 x y z g8 g9 u v) (t : Value) : NumDen w (W.setCell ⟨g8, 0, none⟩ t) n1 d1 g6 x y z g8 g9 t v :=
  ⟨h.n.otherBox h.h8 t, h.f.otherAt h.n68 t, h.p.set t, h.q.other h.ne.symm t, h.ne, h.h6, h.h8, h.h9, h.n68, h.n69⟩
theorem NumDen.setQ (h : NumDen w W n1 d1 g6 x y z g8 g9 u v) (t : Value) : NumDen w (W.setCell ⟨g9, 0, none⟩ t) n1 d1 g6 x y z g8 g9 u t :=
  ⟨h.n.otherBox h.h9 t, h.f.otherAt h.n69 t, h.p.other h.ne t, h.q.set t, h.ne, h.h6, h.h8, h.h9, h.n68, h.n69⟩
end
theorem Box.new72 (w : World) (v : Value) : Box (w.alloc (.cells #[v] 72)) w.heap.size v := ⟨by simp [go_sem], by simp [go_sem]⟩

set_option maxRecDepth 100000 in
set_option maxHeartbeats 4000000 in
theorem rround_ok (n1 d1 : ByteArray) (x : Rat) (j : Int) (w : World) (h1 : IsR n1 d1 x) (hj1 : -600 ≤ j) (hj2 : j ≤ 600) (htab : Tab w) :
    Ans 51 #[.agg #[.string n1, .string d1], .int .i64 j] w (numT (roundQ x j)) (denT (roundQ x j)) (errT (roundQ x j)) := by
  unfold Ans
  obtain ⟨V, hV⟩ : ∃ V, V = (w.alloc (.cells #[.string n1, .string d1] 23)).alloc (.cells #[.string ⟨#[]⟩, .string ⟨#[]⟩] 23) := ⟨_, rfl⟩
  have HS : Hid (N1 w V (.string n1) (.string d1)) := by rw [hV]; exact N1.first _ _ _
  have HV := hide hV
  have HR := hide (qread n1 d1 x V h1)
  have hb6 : Bd 600 x := h1.bd
  have e6 : (600 : Int) = ((600 : Nat) : Int) := rfl
  have HNR : Hid (∀ W v, QOf W v x 67 → Calls Tryz.prog 86 #[v, .int .i64 j] W fun e w' => ∃ a l c, e = .returned (.agg #[.slice a l c]) ∧ IsBig w' (.agg #[.slice a l c]) (stepsN x j) ∧ Below W.heap.size W w') := fun W v hv => by
    obtain ⟨b, n, d, hf, hl, hvq, hn, hd⟩ := hv
    obtain ⟨l1, l2, l3⟩ := Cub.low_is hl
    rw [hvq] at l1 l2 l3
    have hN := rN_lt (x := x) (p := j) (e := 600) hb6 (by omega)
    have hD := rD_lt (x := x) (p := j) (e := 600) hb6 (by omega)
    have hD0 := rD_pos x j
    unfold stepsN
    rw [← l2] at hN ⊢
    rw [← l3] at hD hD0 ⊢
    refine nearest_any v b n d _ _ 134 j W hf (by omega) (by omega) (by omega) (Nat.lt_of_lt_of_le hn (Nat.pow_le_pow_right (by omega) (by omega))) (Nat.lt_of_lt_of_le hd (Nat.pow_le_pow_right (by omega) (by omega))) (pow_limbs hN (by omega)) (pow_limbs hD (by omega)) hD0 ?_
    unfold rN rD
    by_cases hj : j < 0
    · left; rw [if_pos hj, if_pos hj]; exact ⟨hj, rfl, rfl⟩
    · right; rw [if_neg hj, if_neg hj]; exact ⟨hj, rfl, rfl⟩
  have hs := pow_limbs (k := 134) (stepsN_lt (x := x) (p := j) (e := 600) hb6 (by omega)) (by omega)
  have hm := pow_limbs (k := 134) (roundM_lt (x := x) (p := j) (e := 600) hb6 (by omega) (by omega)) (by omega)
  have hd := pow_limbs (k := 134) (roundD_lt (d := 600) (p := j) (e := 600) (by omega)) (by omega)
  have h0 := roundD_pos j
  have HBO : Hid (∀ W, Calls Tryz.prog 112 #[.int .u64 1] W fun e w' => ∃ a l c, e = .returned (.agg #[.slice a l c]) ∧ IsBig w' (.agg #[.slice a l c]) 1 ∧ Below W.heap.size W w') := fun W => bigOf_any 1 W (by decide)
  have HSP : Hid (j < 0 → ∀ W y, IsBig W y (stepsN x j) → Calls Tryz.prog 114 #[y, .int .i64 (-j)] W fun e w' => ∃ a l c, e = .returned (.agg #[.slice a l c]) ∧ IsBig w' (.agg #[.slice a l c]) (roundM x j) ∧ Below W.heap.size W w') := fun hj W y hy => by
    obtain ⟨q, hq⟩ : ∃ q : Nat, -j = (q : Int) := ⟨(-j).toNat, by omega⟩
    have e : roundM x j = stepsN x j * 10 ^ q := by unfold roundM; rw [if_pos hj, show (-j).toNat = q by omega]
    rw [e, hq]
    exact shift_any y _ q 134 W hy (by omega) hs (by omega)
  have HSQ : Hid (¬ j < 0 → ∀ W y, IsBig W y 1 → Calls Tryz.prog 114 #[y, .int .i64 j] W fun e w' => ∃ a l c, e = .returned (.agg #[.slice a l c]) ∧ IsBig w' (.agg #[.slice a l c]) (roundD j) ∧ Below W.heap.size W w') := fun hj W y hy => by
    obtain ⟨q, hq⟩ : ∃ q : Nat, j = (q : Int) := ⟨j.toNat, by omega⟩
    have e : roundD j = 1 * 10 ^ q := by unfold roundD; rw [if_neg hj, show j.toNat = q by omega, Nat.one_mul]
    rw [e, hq]
    exact shift_any y _ q 134 W hy (by omega) (Nat.one_lt_pow (by omega) (by omega)) (by omega)
  have HEQ : Hid ((j < 0 → 1 = roundD j) ∧ (¬ j < 0 → stepsN x j = roundM x j)) := by
    unfold roundD roundM
    exact ⟨fun h => by rw [if_pos h], fun h => by rw [if_neg h]⟩
  have HRA : Hid (∀ b W y z, b = decide (x < 0) → IsBig W y (roundM x j) → IsBig W z (roundD j) → Calls Tryz.prog 70 #[.bool b, y, z] W fun e w' => ∃ v', e = .returned v' ∧ QOf w' v' (roundQ x j) 134 ∧ Below W.heap.size W w') := fun b W y z hbx hy hz => by
    subst hbx
    refine (ratio_any _ y z _ _ 134 W hy hz hm hd h0 (divAns 134 (by omega)) (gcdAns 134 (by omega))).mono ?_
    rintro e w' ⟨v', rfl, hf, hb⟩
    obtain ⟨l1, l2⟩ := Cub.ratio_low (b := decide (x < 0)) (n := roundM x j) h0
    exact ⟨v', rfl, ⟨_, _, _, hf, l1, l2, Nat.lt_of_le_of_lt (Nat.div_le_self _ _) hm, Nat.lt_of_le_of_lt (Nat.div_le_self _ _) hd⟩, hb⟩
  have HSG : Hid (∀ W b s t, QOf W (.agg #[.bool b, s, t]) x 67 → b = decide (x < 0)) := fun W b s t h => by
    obtain ⟨b', n, d, ⟨s', t', e, _⟩, hl, hvq, _⟩ := h
    obtain ⟨l1, _, _⟩ := Cub.low_is hl
    rw [hvq] at l1
    simp only [Value.agg.injEq, Array.mk.injEq, List.cons.injEq, Value.bool.injEq] at e
    rw [e.1]; exact l1
  have k1 : ¬ j < -600 := by omega
  have k2 : ¬ 600 < j := by omega
  have HT := hide htab
  generalize roundQ x j = rq at *
  generalize roundM x j = rm at *
  generalize roundD j = rd at *
  generalize stepsN x j = sn at *
  clear h1 hb6 hs hm hd h0 htab e6
  go_enter Tryz.func51, Tryz.ntmps51
  go_upto_region 1 with fail
  rw [← unhide HV]
  clear hV HV
  have t0 := (unhide HS).a.c0; have t1 := (unhide HS).a.c1
  go_upto_region 2 with (go_at_call 76; go_must (refine (unhide HR).mono ?_; rintro e w1 ⟨v1, rfl, hv1, hb1⟩; obtain ⟨b1, i1, i2, i3, i4, i5, i6, rfl⟩ := hv1.form; have HS1 := hide ((unhide HS).later hb1); have HV1 := hide hv1; clear hv1 hb1 t0 t1))
  obtain ⟨V2, hV2⟩ : ∃ V2, V2 = w1.alloc (.cells #[.bool b1, .slice i1 i2 i3, .slice i4 i5 i6] 74) := ⟨_, rfl⟩
  have hb : Below w1.heap.size w1 V2 := by rw [hV2]; exact (Below.refl _ _).alloc (Nat.le_refl _) _
  have HS2 := hide ((unhide HS1).later hb); have HX := hide ((unhide HV1).later hb)
  have HP : Hid (FBox V2 w1.heap.size (.bool b1) (.slice i1 i2 i3) (.slice i4 i5 i6)) := by rw [hV2]; exact FBox.new _ _ _ _
  have hg6 : w.heap.size + 1 < w1.heap.size := (unhide HS1).r.lt
  rw [← hV2]
  clear hV2 hb HS HS1 HV1 HR
  generalize w1.heap.size = g6 at *
  have t0 := (unhide HP).c0; have t1 := (unhide HP).c1; have t2 := (unhide HP).c2
  have HSGN := hide (unhide HSG _ _ _ _ (unhide HX))
  clear HSG
  go_upto_if 30 with (first
    | (go_at_call 86; go_must (refine (unhide HNR _ _ (unhide HX)).mono ?_; rintro e w3 ⟨a3, l3, c3, rfl, hv3, hb3⟩; have HS3 := hide ((unhide HS2).later hb3); have HP3 := hide ((unhide HP).later hb3); have HN3 := hide hv3; clear hv3 hb3 t0 t1 t2))
    | (go_at_call 112; go_must (refine (unhide HBO _).mono ?_; rintro e w4 ⟨a4, l4, c4, rfl, hv4, hb4⟩; have HS4 := hide ((unhide HS3).later hb4); have HP4 := hide ((unhide HP3).later hb4); have HN4 := hide ((unhide HN3).later hb4); have HD4 := hide hv4; clear hv4 hb4)))
  obtain ⟨V5, hV5⟩ : ∃ V5, V5 = (w4.alloc (.cells #[.slice a3 l3 c3] 72)).alloc (.cells #[.slice a4 l4 c4] 72) := ⟨_, rfl⟩
  have hb5 : Below w4.heap.size w4 V5 := by rw [hV5]; exact ((Below.refl _ _).alloc (Nat.le_refl _) _).alloc (by simp) _
  have g48 : g6 < w4.heap.size := (unhide HP4).lt
  have HS5 : Hid (NumDen w V5 n1 d1 g6 (.bool b1) (.slice i1 i2 i3) (.slice i4 i5 i6) w4.heap.size (w4.heap.size + 1) (.slice a3 l3 c3) (.slice a4 l4 c4)) := by
    refine ⟨(unhide HS4).later hb5, (unhide HP4).later hb5, ?_, ?_, by omega, hg6, by omega, by omega, by omega, by omega⟩
    · rw [hV5]; exact (Box.new72 w4 _).later ((Below.refl _ _).alloc (Nat.le_refl _) _)
    · have := Box.new72 (w4.alloc (.cells #[.slice a3 l3 c3] 72)) (.slice a4 l4 c4)
      rw [show (w4.alloc (.cells #[.slice a3 l3 c3] 72)).heap.size = w4.heap.size + 1 by simp] at this
      rw [hV5]; exact this
  have HN5 := hide ((unhide HN4).later hb5); have HD5 := hide ((unhide HD4).later hb5)
  rw [← hV5]
  clear hV5 hb5 g48 HS2 HS3 HS4 HP HP3 HP4 HN3 HN4 HD4 HX HNR HBO
  generalize w4.heap.size = g8 at *
  generalize g8 + 1 = g9 at *
  have u8 := (unhide HS5).p.c; have u9 := (unhide HS5).q.c
  go_cut [] from 10 (fun wx => ∃ (a7 a8 : Option Addr) (l7 c7 l8 c8 : Nat), Hid (NumDen w wx n1 d1 g6 (.bool b1) (.slice i1 i2 i3) (.slice i4 i5 i6) g8 g9 (.slice a7 l7 c7) (.slice a8 l8 c8)) ∧ Hid (IsBig wx (.agg #[.slice a7 l7 c7]) rm) ∧ Hid (IsBig wx (.agg #[.slice a8 l8 c8]) rd))
  case first =>
    by_cases hj : j < 0
    · have HSX := hide (unhide HSP hj)
      have HE1 := hide ((unhide HEQ).1 hj)
      go_wp2_with (go_at_call 114; go_must (refine (unhide HSX _ _ (unhide HN5)).mono ?_; rintro e w6 ⟨a6, l6, c6, rfl, hv6, hb6⟩; have HS6 := hide ((unhide HS5).later hb6); have HD6 := hide ((unhide HD5).later hb6); have HN6 := hide hv6; clear hv6 hb6 u8 u9; have u8 := (unhide HS6).p.c; have f8 := (unhide HS6).p.f))
      go_meet
      refine ⟨a6, a4, l6, c6, l4, c4, (unhide HS6).setP _, (unhide HN6).box _ u8 (not_int _ _ _), ?_⟩
      have := (unhide HD6).box (.slice a6 l6 c6) u8 (not_int _ _ _)
      rw [unhide HE1] at this
      exact this
    · have HSX := hide (unhide HSQ (by omega))
      have HE1 := hide ((unhide HEQ).2 (by omega))
      go_wp2_with (go_at_call 114; go_must (refine (unhide HSX _ _ (unhide HD5)).mono ?_; rintro e w6 ⟨a6, l6, c6, rfl, hv6, hb6⟩; have HS6 := hide ((unhide HS5).later hb6); have HN6 := hide ((unhide HN5).later hb6); have HD6 := hide hv6; clear hv6 hb6 u8 u9; have u9 := (unhide HS6).q.c; have f9 := (unhide HS6).q.f))
      go_meet
      refine ⟨a3, a6, l3, c3, l6, c6, (unhide HS6).setQ _, ?_, (unhide HD6).box _ u9 (not_int _ _ _)⟩
      have := (unhide HN6).box (.slice a6 l6 c6) u9 (not_int _ _ _)
      rw [unhide HE1] at this
      exact this
  case rest =>
    obtain ⟨a7, a8, l7, c7, l8, c8, HS7, HN7, HD7⟩ := hcut
    clear HS5 HN5 HD5 HSP HSQ HEQ u8 u9
    have u8 := (unhide HS7).p.c; have u9 := (unhide HS7).q.c; have t0 := (unhide HS7).f.c0
    go_wp2_with (first
      | (go_at_call 70; go_must (refine (unhide HRA _ _ _ _ (unhide HSGN) (unhide HN7) (unhide HD7)).mono ?_; rintro e w8 ⟨v8, rfl, hv8, hb8⟩; have HV8 := hide hv8; have HS8 := hide ((unhide HS7).later hb8); clear hv8 hb8 u8 u9 t0))
      | (go_at_call 72; go_must (refine (qtell _ _ 134 _ (unhide HV8) (by decide) ((unhide HT).later (unhide HS8).n.below)).mono ?_; rintro e w9 ⟨rfl, hb9⟩; have HS9 := hide ((unhide HS8).n.later hb9); clear hb9; have r0 := (unhide HS9).r.c0; have r1 := (unhide HS9).r.c1; have rf0 := (unhide HS9).r.f0; have rf1 := (unhide HS9).r.f1)))
    have hS := (unhide HS9).r.store (.string (numT rq)) (.string (denT rq))
    have hb : Below w.heap.size w (store2 w9 (w.heap.size + 1) (.string (numT rq)) (.string (denT rq))) := below_store2 (unhide HS9).below (by omega) _ _
    have u0 := hS.c0; have u1 := hS.c1
    exact bodyPost_ret (v := .tuple #[.agg #[.string (numT rq), .string (denT rq)], .int .i64 (errT rq)]) (w := store2 w9 (w.heap.size + 1) (.string (numT rq)) (.string (denT rq))) (by simp [results, Tryz.results51, go_sem, u0, u1]) rfl ⟨rfl, hb⟩
end Go.Proofs.YtifalmdoligblaaGreatDoor

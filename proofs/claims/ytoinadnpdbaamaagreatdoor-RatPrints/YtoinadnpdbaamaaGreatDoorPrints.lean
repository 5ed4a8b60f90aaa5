/- rat.pointed, whole. -/
import Derived.Test.YtoinadnpdbaamaaGreatDoorAwake
import Derived.Test.YtoinadnpdbaamaaGreatDoorRefRound
import Derived.Lib.ConvBytes
import Derived.Test.YtoinadnpdbaamaaGreatDoorPairs
import Derived.Test.YtoinadnpdbaamaaGreatDoorMakes
import Derived.Test.YtoinadnpdbaamaaGreatDoorRound
import Derived.Test.YtoinadnpdbaamaaGreatDoorGcdSmall
import Derived.Test.YtoinadnpdbaamaaGreatDoorRefOk
namespace Go.Proofs.YtoinadnpdbaamaaGreatDoor
open Go.RowKit

/-- Bytes in a block. -/
structure BR (W : World) (g : Nat) (L : List UInt8) : Prop where
  c : ∀ k (h : k < L.length), W.cell? ⟨g, k, none⟩ = some (.int .u8 (L[k].toNat : Int))
  f : ∀ k, k < L.length → W.frozen? ⟨g, k, none⟩ = false
theorem BR.drew {W : World} {g : Nat} {L : List UInt8} (h : BR W g L) : BR W.drew g L := ⟨fun k hk => by simpa [go_sem] using h.c k hk, fun k hk => by simpa [go_sem] using h.f k hk⟩
theorem BR.new (W : World) (s : ByteArray) : BR (Lib.bytesWorld W 5 s) W.heap.size s.data.toList := by
  refine ⟨fun k hk => ?_, fun k hk => ?_⟩
  · have hs : k < s.size := by rw [← list_len]; exact hk
    rw [Lib.bytesWorld_cell W 5 s k hs, List.getD_eq_getElem?_getD, List.getElem?_eq_getElem hk]
    rfl
  · have hs : s.size ≤ (Lib.bytesCells W 5 s).size := by unfold Lib.bytesCells; simp
    have hk' : k < s.size := by rw [← list_len]; exact hk
    simp [World.frozen?, Lib.bytesWorld_at_new]
    omega
/-- A piece written over. -/
def over (L M : List UInt8) (o : Nat) : List UInt8 := L.take o ++ M ++ L.drop (o + M.length)
theorem over_length {L M : List UInt8} {o : Nat} (h : o + M.length ≤ L.length) : (over L M o).length = L.length := by
  unfold over; simp; omega
theorem over_in {L M : List UInt8} {o : Nat} (ho : o + M.length ≤ L.length) {j : Nat} (hj : j < M.length) : (over L M o)[o + j]? = some M[j] := by
  unfold over
  rw [List.getElem?_append_left (by simp; omega), List.getElem?_append_right (by simp; omega)]
  rw [show o + j - (List.take o L).length = j from by simp; omega, List.getElem?_eq_getElem hj]
theorem over_out {L M : List UInt8} {o : Nat} (ho : o + M.length ≤ L.length) {k : Nat} (hk : k < L.length) (h : k < o ∨ o + M.length ≤ k) : (over L M o)[k]? = some L[k] := by
  unfold over
  rcases h with h | h
  · rw [List.getElem?_append_left (by simp; omega), List.getElem?_append_left (by simp; omega), List.getElem?_take_of_lt h, List.getElem?_eq_getElem hk]
  · rw [List.getElem?_append_right (by simp; omega), List.getElem?_drop]
    rw [show o + M.length + (k - (List.take o L ++ M).length) = k from by simp; omega, List.getElem?_eq_getElem hk]
theorem get_of {L : List UInt8} {k : Nat} {x : UInt8} (hk : k < L.length) (h : L[k]? = some x) : L[k] = x := by
  rw [List.getElem?_eq_getElem hk] at h; exact Option.some.inj h
theorem BR.put {W : World} {g : Nat} {L : List UInt8} (h : BR W g L) (M : List UInt8) (o : Nat) (ho : o + M.length ≤ L.length) : BR (W.setCells g o (M.map fun x => Value.int .u8 (x.toNat : Int))) g (over L M o) := by
  have hl := over_length ho
  refine ⟨fun k hk => ?_, fun k hk => by rw [World.frozen?_setCells]; exact h.f k (by omega)⟩
  by_cases hin : o ≤ k ∧ k < o + M.length
  · obtain ⟨j, rfl⟩ : ∃ j, k = o + j := ⟨k - o, by omega⟩
    have hj' : j < M.length := by omega
    have hj : j < (M.map fun x => Value.int .u8 (x.toNat : Int)).length := by rw [List.length_map]; exact hj'
    rw [World.cell?_setCells_in g _ o W (fun i hi => by rw [List.length_map] at hi; rw [h.c (o + i) (by omega)]; rfl) j hj]
    rw [List.getElem_map, get_of hk (over_in ho hj')]
  · rw [World.cell?_setCells_out g _ o W ⟨g, k, none⟩ (fun _ _ => by rw [List.length_map]; show k < o ∨ _ ≤ k; omega), h.c k (by omega), get_of hk (over_out ho (by omega) (by omega))]
theorem BR.set {W : World} {g : Nat} {L : List UInt8} (h : BR W g L) (o : Nat) (x : UInt8) (ho : o < L.length) : BR (W.setCell ⟨g, o, none⟩ (.int .u8 (x.toNat : Int))) g (over L [x] o) := h.put [x] o (by simp only [List.length_cons, List.length_nil]; omega)
theorem over_over (L M : List UInt8) : over L M L.length = L ++ M := by unfold over; simp
/-- Noughts ahead, where there are too few digits. -/
def padZ (s : List UInt8) (p : Nat) : List UInt8 := List.replicate (p + 1 - s.length) 48 ++ s
/-- A point ahead of the last p digits. -/
def pt (s : List UInt8) (p : Nat) : List UInt8 := (padZ s p).take ((padZ s p).length - p) ++ [46] ++ (padZ s p).drop ((padZ s p).length - p)
theorem repeat48 (n : Nat) : Lib.repeatL (⟨#[48]⟩ : ByteArray).data.toList n = List.replicate n 48 := by
  induction n with
  | zero => rfl
  | succ n ih => rw [Lib.repeatL, ih]; rfl

theorem over_split (A B C M : List UInt8) (o : Nat) (ho : o = A.length) (h : B.length = M.length) : over (A ++ B ++ C) M o = A ++ M ++ C := by
  unfold over
  subst ho
  rw [List.append_assoc A B C, List.take_left, List.drop_append, List.drop_of_length_le (by omega), List.nil_append, Nat.add_sub_cancel_left, ← h, List.drop_left]
theorem over_nil (L : List UInt8) (o : Nat) : over L [] o = L := by unfold over; simp
theorem over_three (s : List UInt8) (p n q ah o1 o3 : Nat) (hp : 1 ≤ p) (hn4 : p + 2 ≤ n) (hl : (s.length = ah + p ∧ n = s.length + 1 ∧ q = ah) ∨ (ah = 0 ∧ s.length ≤ p ∧ n = p + 2 ∧ q = 1)) (h1 : o1 = q - ah) (h3 : o3 = n - (s.length - ah)) :
    over (over (over (List.replicate n 48) (s.take ah) o1) [46] q) (s.drop ah) o3 = pt s p := by
  rcases hl with ⟨e1, e2, e3⟩ | ⟨e1, e2, e3, e4⟩
  · have ht : (s.take ah).length = ah := by simp; omega
    have a1 : over (List.replicate n 48) (s.take ah) o1 = s.take ah ++ [48] ++ List.replicate p 48 := by
      have := over_split [] (List.replicate ah 48) ([48] ++ List.replicate p 48) (s.take ah) o1 (by simp; omega) (by simp; omega)
      rw [List.nil_append, List.nil_append] at this
      rw [List.append_assoc, ← this]
      congr 1
      rw [show n = ah + (1 + p) by omega, ← List.replicate_append_replicate, ← List.replicate_append_replicate]
      rfl
    rw [a1, over_split (s.take ah) [48] (List.replicate p 48) [46] q (by omega) rfl]
    have a3 := over_split (s.take ah ++ [46]) (List.replicate p 48) [] (s.drop ah) o3 (by simp; omega) (by simp; omega)
    rw [List.append_nil, List.append_nil] at a3
    rw [a3]
    unfold pt
    have hz : padZ s p = s := by unfold padZ; rw [show p + 1 - s.length = 0 by omega]; rfl
    rw [hz, show s.length - p = ah by omega]
  · subst e1 e4
    rw [List.take_zero, over_nil, List.drop_zero]
    have a2 := over_split [48] [48] (List.replicate p 48) [46] 1 rfl rfl
    rw [show List.replicate n (48 : UInt8) = [48] ++ [48] ++ List.replicate p 48 from by rw [e3, Nat.add_comm]; rw [← List.replicate_append_replicate]; rfl, a2]
    have a3 := over_split ([48] ++ [46] ++ List.replicate (p - s.length) 48) (List.replicate s.length 48) [] s o3 (by simp; omega) (by simp)
    rw [List.append_nil, List.append_nil, List.append_assoc, List.replicate_append_replicate, show p - s.length + s.length = p by omega] at a3
    rw [a3]
    unfold pt
    have hz : padZ s p = [48] ++ (List.replicate (p - s.length) 48 ++ s) := by
      unfold padZ
      rw [show p + 1 - s.length = 1 + (p - s.length) by omega, ← List.replicate_append_replicate, List.append_assoc]; rfl
    have hzl : (padZ s p).length = p + 1 := by unfold padZ; simp; omega
    rw [hzl, show p + 1 - p = 1 by omega, hz]
    simp

set_option maxRecDepth 100000 in
set_option maxHeartbeats 2000000 in
theorem pointed_any (s : ByteArray) (p : Nat) (w : World) (hp : 1 ≤ p) (hp2 : p ≤ 100000) (hs : s.size ≤ 100000) (hs1 : 1 ≤ s.size) :
    Calls Tryz.prog 89 #[.string s, .int .i64 (p : Int)] w fun r w' => r = .returned (.string ⟨(pt s.data.toList p).toArray⟩) ∧ Below w.heap.size w w' := by
  obtain ⟨n, hn⟩ : ∃ n, n = max s.size (p + 1) + 1 := ⟨_, rfl⟩
  have hmx : max (s.size : Int) ((p : Int) + 1) = (n : Int) - 1 := by omega
  obtain ⟨z, hz⟩ : ∃ z : ByteArray, z = ⟨(List.replicate n 48).toArray⟩ := ⟨_, rfl⟩
  have hzs : z.size = n := by rw [hz]; show (List.replicate n (48 : UInt8)).toArray.size = n; simp
  have H143 : Hid (∀ W, Calls Tryz.prog 143 #[.string ⟨#[48]⟩, .int .i64 (n : Int)] W fun e w' => e = .returned (.string z) ∧ Below W.heap.size W w') := fun W => by
    have := Tryz.strings_Repeat ⟨#[48]⟩ n W (by omega) (by show 1 * n ≤ _; omega)
    rw [repeat48] at this
    rw [hz]; exact this
  have hcv : ∀ W : World, (convert 9 130 (.string z)).run Tryz.prog W = .ok (.slice (some ⟨W.heap.size, 0, none⟩) n (grownCap W n 0 5)) (Lib.bytesWorld W 5 z) := fun W => by
    have := Lib.run_convert_string_bytes (P := Tryz.prog) W 9 130 5 z Tryz.underlying9 Tryz.underlying130 Tryz.underlying5
    rwa [hzs] at this
  have HZL : Hid (z.data.toList = List.replicate n 48) := by rw [hz]; exact rfl
  have HN := hide hn
  have hp0 : ((p : Int) == 0) = false := by rw [beq_eq_false_iff_ne]; omega
  have hn1 : (n : Int) - 1 + 1 = (n : Int) := by omega
  have hn3 : n ≤ 200000 := by omega
  have hn4 : p + 2 ≤ n := by omega
  have hn5 : s.size + 1 ≤ n := by omega
  clear hn hz hzs
  go_enter Tryz.func89, Tryz.ntmps89
  go_upto_region 6 with (go_at_call 143; go_must (refine (unhide H143 _).mono ?_; rintro e w1 ⟨rfl, hb1⟩; have HB1 := hide hb1; clear hb1))
  obtain ⟨q, hq⟩ : ∃ q : Nat, (n : Int) - (p : Int) - 1 = (q : Int) := ⟨n - p - 1, by omega⟩
  obtain ⟨ah, ha⟩ : ∃ ah : Nat, max ((s.size : Int) - (p : Int)) 0 = (ah : Int) := ⟨s.size - p, by omega⟩
  have HLIST : Hid ((s.size = ah + p ∧ n = s.size + 1 ∧ q = ah) ∨ (ah = 0 ∧ s.size ≤ p ∧ n = p + 2 ∧ q = 1)) := by have := unhide HN; show _ ∨ _; omega
  have haq : ah ≤ q := by have := unhide HLIST; omega
  obtain ⟨o1, ho1⟩ : ∃ o1 : Nat, (q : Int) - (ah : Int) = (o1 : Int) := ⟨q - ah, by omega⟩
  have hqn : q < n := by have := unhide HLIST; omega
  have hah : ah < s.size := by have := unhide HLIST; omega
  have ho1n : o1 < n := by omega
  obtain ⟨U, hU⟩ : ∃ U, U = Lib.bytesWorld w1 5 z := ⟨_, rfl⟩
  obtain ⟨C, hC⟩ : ∃ C, C = grownCap w1 n 0 5 := ⟨_, rfl⟩
  have hCn : n ≤ C := by rw [hC]; exact grownCap_ge w1 n 0 5
  have HR : Hid (BR U w1.heap.size (List.replicate n 48) ∧ Below w.heap.size w U ∧ w.heap.size ≤ w1.heap.size) := by
    rw [hU, ← unhide HZL]; exact ⟨BR.new w1 z, (unhide HB1).trans ((Lib.bytesWorld_below w1 5 _).mono (unhide HB1).size), (unhide HB1).size⟩
  rw [← hU, ← hC, hq, ha]
  clear hU hC hcv H143 HB1 HZL HN
  generalize w1.heap.size = g at *
  have hz : ∀ w, (Go.sizeOf 5).run Tryz.prog w = .ok 1 w := fun _ => by kernel_rfl
  have hx1 : (s.extract 0 ah).data.toList = s.data.toList.take ah := by simp
  have hcp : (Builtin.copy_ #[130, 9] 3 #[.slice (some ⟨g, o1, none⟩) (n - o1) (C - o1), .string (s.extract 0 ah)]).run Tryz.prog U.drew = .ok (.int .i64 (ah : Int)) (U.drew.setCells g o1 ((s.data.toList.take ah).map fun x => Value.int .u8 (x.toNat : Int))) := by
    have hsz : (s.extract 0 ah).size = ah := by simp; omega
    have h := run_copy_string (P := Tryz.prog) U.drew 130 9 3 5 g o1 (n - o1) (C - o1) (s.extract 0 ah) Tryz.underlying130 hz (by rw [hsz]; omega) (fun j hj => ?_) (fun j hj => ?_)
    · rw [hx1, hsz] at h; exact h
    · rw [hsz] at hj
      rw [(unhide HR).1.drew.c (o1 + j) (by simp; omega)]; rfl
    · rw [hsz] at hj
      exact (unhide HR).1.drew.f (o1 + j) (by simp; omega)
  have k0 : ¬ C = o1 := by omega
  have k1 : (o1 : Int) ≤ (n : Int) := by omega
  have k2 : (ah : Int) ≤ (s.size : Int) := by omega
  have k3 : (n : Int) ≤ (C : Int) := by omega
  go_region
  obtain ⟨V1, hV1⟩ : ∃ V1, V1 = U.drew.setCells g o1 (List.take ah (List.map (fun x => Value.int .u8 (x.toNat : Int)) s.data.toList)) := ⟨_, rfl⟩
  obtain ⟨L1, hL1⟩ : ∃ L1, L1 = over (List.replicate n 48) (s.data.toList.take ah) o1 := ⟨_, rfl⟩
  have hl1 : L1.length = n := by rw [hL1, over_length (by simp; omega)]; simp
  have hgw := (unhide HR).2.2
  have HR1 : Hid (BR V1 g L1 ∧ Below w.heap.size w V1) := by
    rw [hV1, hL1, ← List.map_take]
    exact ⟨(unhide HR).1.drew.put _ _ (by simp; omega), below_setCells hgw _ _ _ ((unhide HR).2.1.drew)⟩
  rw [← hV1]
  clear hV1 hcp HR hx1
  have q1 := (unhide HR1).1.c q (by omega); have f1 := (unhide HR1).1.f q (by omega)
  have kq : (q : Int) < (n : Int) := by omega
  go_upto_region 8 with fail
  obtain ⟨V2, hV2⟩ : ∃ V2, V2 = V1.setCell ⟨g, q, none⟩ (.int .u8 46) := ⟨_, rfl⟩
  obtain ⟨L2, hL2⟩ : ∃ L2, L2 = over L1 [46] q := ⟨_, rfl⟩
  have hl2 : L2.length = n := by rw [hL2, over_length (by simp only [List.length_cons, List.length_nil]; omega), hl1]
  have HR2 : Hid (BR V2 g L2 ∧ Below w.heap.size w V2) := by rw [hV2, hL2]; exact ⟨(unhide HR1).1.set q 46 (by omega), (unhide HR1).2.setCell (p := ⟨g, q, none⟩) hgw _⟩
  rw [← hV2]
  clear hV2 HR1 q1 f1
  obtain ⟨o3, ho3⟩ : ∃ o3 : Nat, (n : Int) - ((s.size : Int) - (ah : Int)) = (o3 : Int) := ⟨n - (s.size - ah), by omega⟩
  have ho3n : o3 < n := by omega
  have hx2 : (s.extract ah s.size).data.toList = s.data.toList.drop ah := by
    simp
    rw [List.take_of_length_le (by simp)]
  have hcp : (Builtin.copy_ #[130, 9] 3 #[.slice (some ⟨g, o3, none⟩) (n - o3) (C - o3), .string (s.extract ah s.size)]).run Tryz.prog V2.drew = .ok (.int .i64 ((s.size - ah : Nat) : Int)) (V2.drew.setCells g o3 ((s.data.toList.drop ah).map fun x => Value.int .u8 (x.toNat : Int))) := by
    have hsz : (s.extract ah s.size).size = s.size - ah := by simp
    have h := run_copy_string (P := Tryz.prog) V2.drew 130 9 3 5 g o3 (n - o3) (C - o3) (s.extract ah s.size) Tryz.underlying130 hz (by rw [hsz]; omega) (fun j hj => ?_) (fun j hj => ?_)
    · rw [hx2, hsz] at h; exact h
    · rw [hsz] at hj
      rw [(unhide HR2).1.drew.c (o3 + j) (by omega)]; rfl
    · rw [hsz] at hj
      exact (unhide HR2).1.drew.f (o3 + j) (by omega)
  have k0 : ¬ C = o3 := by omega
  have k1 : (o3 : Int) ≤ (n : Int) := by omega
  go_region
  obtain ⟨V3, hV3⟩ : ∃ V3, V3 = V2.drew.setCells g o3 (List.drop ah (List.map (fun x => Value.int .u8 (x.toNat : Int)) s.data.toList)) := ⟨_, rfl⟩
  have HL3 : Hid (over L2 (s.data.toList.drop ah) o3 = pt s.data.toList p) := by
    rw [hL2, hL1]
    have hl := unhide HLIST
    rw [← list_len] at hl
    exact over_three s.data.toList p n q ah o1 o3 hp hn4 hl (by omega) (by rw [list_len]; omega)
  have HR3 : Hid (BR V3 g (pt s.data.toList p) ∧ Below w.heap.size w V3) := by
    rw [hV3, ← unhide HL3, ← List.map_drop]
    exact ⟨(unhide HR2).1.drew.put _ _ (by simp; omega), below_setCells hgw _ _ _ ((unhide HR2).2.drew)⟩
  have hl3 : (pt s.data.toList p).length = n := by rw [← unhide HL3, over_length (by simp; omega), hl2]
  rw [← hV3]
  clear hV3 hcp HR2 hx2 HL3 hL1 hL2
  obtain ⟨L, hL⟩ : ∃ L, L = pt s.data.toList p := ⟨_, rfl⟩
  rw [← hL] at HR3 hl3
  have HLL := hide hL
  clear hL
  have hback := run_convert_bytes_back (P := Tryz.prog) V3 130 9 5 ⟨g, 0, none⟩ C L Tryz.underlying130 Tryz.underlying5 Tryz.underlying9 (fun k hk => by
    rw [Lib.add_plain, Nat.zero_add]
    exact (unhide HR3).1.c k hk)
  rw [hl3] at hback
  go_wp2
  go_ret
  exact ⟨by rw [← unhide HLL]; rfl, (unhide HR3).2⟩
end Go.Proofs.YtoinadnpdbaamaaGreatDoor

namespace Go.Proofs.YtoinadnpdbaamaaGreatDoor
open Go.RowKit

/-- A function answers a text and an error. -/
def AnsS (f : Nat) (args : Array Value) (w : World) (s : ByteArray) (e : Int) : Prop := Calls Tryz.prog f args w fun r w' => r = .returned (.tuple #[.string s, .int .i64 e]) ∧ Below w.heap.size w w'
def BothS (f g : Nat) (args : Array Value) : Prop := ∃ (s : ByteArray) (e : Int), (∀ w, Tab w → AnsS f args w s e) ∧ (∀ w, AnsS g args w s e)
/-- What Print tells. -/
def printT (ok : Bool) (n d : ByteArray) : ByteArray := if ok then (if (d.toList == [49]) then n else n ++ ⟨#[47]⟩ ++ d) else ⟨#[]⟩

set_option maxRecDepth 100000 in
set_option maxHeartbeats 2000000 in
theorem print24 (n d : ByteArray) (ok : Bool) (w : World) (hn : ok = true → n.size ≤ 1000000 ∧ d.size ≤ 1000000)
    (h : ∀ W, Calls Tryz.prog 17 #[.agg #[.string n, .string d]] W fun r w' => r = .returned (.bool ok) ∧ Below W.heap.size W w') : AnsS 24 #[.agg #[.string n, .string d]] w (printT ok n d) (if ok then 0 else 3) := by
  unfold AnsS
  obtain ⟨V, hV⟩ : ∃ V, V = w.alloc (.cells #[.string n, .string d] 23) := ⟨_, rfl⟩
  have HB0 : Hid (Below w.heap.size w V) := by rw [hV]; exact (Below.refl _ _).alloc (Nat.le_refl _) _
  have HS1 : Hid (T2 V w.heap.size (.string n) (.string d)) := by rw [hV]; exact ⟨by simp [go_sem], by simp [go_sem], by simp [go_sem], by simp [go_sem]⟩
  have HV := hide hV
  have HA := hide h
  have hl : (⟨#[47]⟩ : ByteArray).size = 1 := rfl
  obtain ⟨e1, he1⟩ : ∃ e1, e1 = (d.toList == [49]) := ⟨_, rfl⟩
  unfold printT
  rw [← he1]
  have he1' := he1.symm
  clear h hV he1
  have HNN := hide hn
  clear hn
  cases ok with
  | false =>
    clear he1' HNN
    go_enter Tryz.func24, Tryz.ntmps24
    go_upto_region 1 with fail
    rw [← unhide HV]
    clear HV
    have t0 := (unhide HS1).c0; have t1 := (unhide HS1).c1
    go_wp2_with (go_at_call 17; go_must (refine (unhide HA _).mono ?_; rintro e w1 ⟨rfl, hb1⟩; have HE := hide ((unhide HB0).trans (hb1.mono (unhide HB0).size)); clear hb1 t0 t1))
    exact bodyPost_ret (v := .tuple #[.string ⟨#[]⟩, .int .i64 3]) (by simp [results, Tryz.results24, go_sem]) rfl ⟨rfl, unhide HE⟩
  | true =>
    obtain ⟨z1, z2⟩ := unhide HNN rfl
    clear HNN
    cases e1 with
    | true =>
      go_enter Tryz.func24, Tryz.ntmps24
      go_upto_region 1 with fail
      rw [← unhide HV]
      clear HV
      have t0 := (unhide HS1).c0; have t1 := (unhide HS1).c1
      go_wp2_with (go_at_call 17; go_must (refine (unhide HA _).mono ?_; rintro e w1 ⟨rfl, hb1⟩; have HE := hide ((unhide HB0).trans (hb1.mono (unhide HB0).size)); have HS2 := hide ((unhide HS1).later hb1); clear hb1 t0 t1; have t0 := (unhide HS2).c0; have t1 := (unhide HS2).c1))
      exact bodyPost_ret (v := .tuple #[.string n, .int .i64 0]) (by simp [results, Tryz.results24, go_sem]) rfl ⟨rfl, unhide HE⟩
    | false =>
      go_enter Tryz.func24, Tryz.ntmps24
      go_upto_region 1 with fail
      rw [← unhide HV]
      clear HV
      have t0 := (unhide HS1).c0; have t1 := (unhide HS1).c1
      go_wp2_with (go_at_call 17; go_must (refine (unhide HA _).mono ?_; rintro e w1 ⟨rfl, hb1⟩; have HE := hide ((unhide HB0).trans (hb1.mono (unhide HB0).size)); have HS2 := hide ((unhide HS1).later hb1); clear hb1 t0 t1; have t0 := (unhide HS2).c0; have t1 := (unhide HS2).c1))
      exact bodyPost_ret (v := .tuple #[.string (n ++ ⟨#[47]⟩ ++ d), .int .i64 0]) (by simp [results, Tryz.results24, go_sem]) rfl ⟨rfl, unhide HE⟩

set_option maxRecDepth 100000 in
set_option maxHeartbeats 2000000 in
theorem print25 (n d : ByteArray) (ok : Bool) (w : World) (hn : ok = true → n.size ≤ 1000000 ∧ d.size ≤ 1000000)
    (h : ∀ W, Calls Tryz.prog 18 #[.agg #[.string n, .string d]] W fun r w' => r = .returned (.bool ok) ∧ Below W.heap.size W w') : AnsS 25 #[.agg #[.string n, .string d]] w (printT ok n d) (if ok then 0 else 3) := by
  unfold AnsS
  obtain ⟨V, hV⟩ : ∃ V, V = w.alloc (.cells #[.string n, .string d] 23) := ⟨_, rfl⟩
  have HB0 : Hid (Below w.heap.size w V) := by rw [hV]; exact (Below.refl _ _).alloc (Nat.le_refl _) _
  have HS1 : Hid (T2 V w.heap.size (.string n) (.string d)) := by rw [hV]; exact ⟨by simp [go_sem], by simp [go_sem], by simp [go_sem], by simp [go_sem]⟩
  have HV := hide hV
  have HA := hide h
  have hl : (⟨#[47]⟩ : ByteArray).size = 1 := rfl
  obtain ⟨e1, he1⟩ : ∃ e1, e1 = (d.toList == [49]) := ⟨_, rfl⟩
  unfold printT
  rw [← he1]
  have he1' := he1.symm
  clear h hV he1
  have HNN := hide hn
  clear hn
  cases ok with
  | false =>
    clear he1' HNN
    go_enter Tryz.func25, Tryz.ntmps25
    go_upto_region 1 with fail
    rw [← unhide HV]
    clear HV
    have t0 := (unhide HS1).c0; have t1 := (unhide HS1).c1
    go_wp2_with (go_at_call 18; go_must (refine (unhide HA _).mono ?_; rintro e w1 ⟨rfl, hb1⟩; have HE := hide ((unhide HB0).trans (hb1.mono (unhide HB0).size)); clear hb1 t0 t1))
    exact bodyPost_ret (v := .tuple #[.string ⟨#[]⟩, .int .i64 3]) (by simp [results, Tryz.results25, go_sem]) rfl ⟨rfl, unhide HE⟩
  | true =>
    obtain ⟨z1, z2⟩ := unhide HNN rfl
    clear HNN
    cases e1 with
    | true =>
      go_enter Tryz.func25, Tryz.ntmps25
      go_upto_region 1 with fail
      rw [← unhide HV]
      clear HV
      have t0 := (unhide HS1).c0; have t1 := (unhide HS1).c1
      go_wp2_with (go_at_call 18; go_must (refine (unhide HA _).mono ?_; rintro e w1 ⟨rfl, hb1⟩; have HE := hide ((unhide HB0).trans (hb1.mono (unhide HB0).size)); have HS2 := hide ((unhide HS1).later hb1); clear hb1 t0 t1; have t0 := (unhide HS2).c0; have t1 := (unhide HS2).c1))
      exact bodyPost_ret (v := .tuple #[.string n, .int .i64 0]) (by simp [results, Tryz.results25, go_sem]) rfl ⟨rfl, unhide HE⟩
    | false =>
      go_enter Tryz.func25, Tryz.ntmps25
      go_upto_region 1 with fail
      rw [← unhide HV]
      clear HV
      have t0 := (unhide HS1).c0; have t1 := (unhide HS1).c1
      go_wp2_with (go_at_call 18; go_must (refine (unhide HA _).mono ?_; rintro e w1 ⟨rfl, hb1⟩; have HE := hide ((unhide HB0).trans (hb1.mono (unhide HB0).size)); have HS2 := hide ((unhide HS1).later hb1); clear hb1 t0 t1; have t0 := (unhide HS2).c0; have t1 := (unhide HS2).c1))
      exact bodyPost_ret (v := .tuple #[.string (n ++ ⟨#[47]⟩ ++ d), .int .i64 0]) (by simp [results, Tryz.results25, go_sem]) rfl ⟨rfl, unhide HE⟩

set_option maxRecDepth 100000 in
set_option maxHeartbeats 2000000 in
theorem pointed_zero (s : ByteArray) (w : World) : Calls Tryz.prog 89 #[.string s, .int .i64 0] w fun r w' => r = .returned (.string s) ∧ Below w.heap.size w w' := by
  go_enter Tryz.func89, Tryz.ntmps89
  go_wp2
  go_ret
  exact ⟨rfl, Below.refl _ _⟩
/-- The digits, with a point. -/
def ptT (s : ByteArray) (p : Nat) : ByteArray := if p = 0 then s else ⟨(pt s.data.toList p).toArray⟩
theorem pointed_all (s : ByteArray) (p : Nat) (w : World) (hp2 : p ≤ 100000) (hs : s.size ≤ 100000) (hs1 : 1 ≤ s.size) :
    Calls Tryz.prog 89 #[.string s, .int .i64 (p : Int)] w fun r w' => r = .returned (.string (ptT s p)) ∧ Below w.heap.size w w' := by
  unfold ptT
  by_cases h : p = 0
  · rw [if_pos h, h]; exact pointed_zero s w
  · rw [if_neg h]; exact pointed_any s p w (by omega) hp2 hs hs1
theorem pt_length (s : List UInt8) (p : Nat) : (pt s p).length ≤ s.length + p + 3 := by
  unfold pt padZ
  simp
  omega
theorem ptT_size (s : ByteArray) (p : Nat) : (ptT s p).size ≤ s.size + p + 3 := by
  unfold ptT
  split
  · omega
  · have := pt_length s.data.toList p
    rw [list_len] at this
    show (pt s.data.toList p).toArray.size ≤ _
    simpa using this
end Go.Proofs.YtoinadnpdbaamaaGreatDoor

namespace Go.Proofs.YtoinadnpdbaamaaGreatDoor
open Go.RowKit

/-- What Digits tells of a number: its text, and the error. -/
def digS (x : Rat) (p : Nat) : ByteArray := if decide (x < 0) && !(stepsN x p == 0) then ⟨#[45]⟩ ++ ptT (tx (stepsN x p)) p else ptT (tx (stepsN x p)) p
def digitsT (x : Rat) (p : Nat) : ByteArray := if 600 < (tx (stepsN x p)).size then ⟨#[]⟩ else digS x p
def digitsE (x : Rat) (p : Nat) : Int := if 600 < (tx (stepsN x p)).size then 7 else 0
theorem tx_digits (n : Nat) : (tx n).size = Lib.nDigits n := by rw [← list_len, tx_list, Lib.decDigits_length]

set_option maxRecDepth 100000 in
set_option maxHeartbeats 4000000 in
theorem rdigits_no (n1 d1 : ByteArray) (j : Int) (w : World) (h1 : Reads n1 d1 false) : AnsS 26 #[.agg #[.string n1, .string d1], .int .i64 j] w ⟨#[]⟩ 3 := by
  unfold AnsS
  obtain ⟨V, hV⟩ : ∃ V, V = w.alloc (.cells #[.string n1, .string d1] 23) := ⟨_, rfl⟩
  have HB0 : Hid (Below w.heap.size w V) := by rw [hV]; exact (Below.refl _ _).alloc (Nat.le_refl _) _
  have HS1 : Hid (T2 V w.heap.size (.string n1) (.string d1)) := by rw [hV]; exact ⟨by simp [go_sem], by simp [go_sem], by simp [go_sem], by simp [go_sem]⟩
  have HV := hide hV
  have HR := hide (h1 V)
  clear h1
  go_enter Tryz.func26, Tryz.ntmps26
  go_upto_region 1 with fail
  rw [← unhide HV]
  clear hV HV
  have t0 := (unhide HS1).c0; have t1 := (unhide HS1).c1
  go_upto_region 2 with (go_at_call 76; go_must (refine (unhide HR).mono ?_; rintro e w1 ⟨b1, i1, i2, i3, i4, i5, i6, rfl, hb1⟩; have HB1 := hide ((unhide HB0).trans (hb1.mono (unhide HB0).size)); clear hb1 t0 t1))
  obtain ⟨V2, hV2⟩ : ∃ V2, V2 = w1.alloc (.cells #[.bool b1, .slice i1 i2 i3, .slice i4 i5 i6] 74) := ⟨_, rfl⟩
  have hb : Below w1.heap.size w1 V2 := by rw [hV2]; exact (Below.refl _ _).alloc (Nat.le_refl _) _
  have HE := hide ((unhide HB1).trans (hb.mono (unhide HB1).size))
  rw [← hV2]
  clear hV2 hb HB1 HB0 HR
  generalize w1.heap.size = g8 at *
  go_wp2_with fail
  exact bodyPost_ret (v := .tuple #[.string ⟨#[]⟩, .int .i64 3]) (by simp [results, Tryz.results26, go_sem]) rfl ⟨rfl, unhide HE⟩

set_option maxRecDepth 100000 in
set_option maxHeartbeats 4000000 in
theorem rdigits_arg (n1 d1 : ByteArray) (x : Rat) (j : Int) (w : World) (h1 : IsR n1 d1 x) (hj : j < 0 ∨ 600 < j) : AnsS 26 #[.agg #[.string n1, .string d1], .int .i64 j] w ⟨#[]⟩ 1 := by
  unfold AnsS
  obtain ⟨V, hV⟩ : ∃ V, V = w.alloc (.cells #[.string n1, .string d1] 23) := ⟨_, rfl⟩
  have HB0 : Hid (Below w.heap.size w V) := by rw [hV]; exact (Below.refl _ _).alloc (Nat.le_refl _) _
  have HS1 : Hid (T2 V w.heap.size (.string n1) (.string d1)) := by rw [hV]; exact ⟨by simp [go_sem], by simp [go_sem], by simp [go_sem], by simp [go_sem]⟩
  have HV := hide hV
  have HR := hide (qread n1 d1 x V h1)
  clear h1
  go_enter Tryz.func26, Tryz.ntmps26
  go_upto_region 1 with fail
  rw [← unhide HV]
  clear hV HV
  have t0 := (unhide HS1).c0; have t1 := (unhide HS1).c1
  go_upto_region 2 with (go_at_call 76; go_must (refine (unhide HR).mono ?_; rintro e w1 ⟨v1, rfl, hv1, hb1⟩; obtain ⟨b1, i1, i2, i3, i4, i5, i6, rfl⟩ := hv1.form; have HB1 := hide ((unhide HB0).trans (hb1.mono (unhide HB0).size)); have HV1 := hide hv1; clear hv1 hb1 t0 t1))
  obtain ⟨V2, hV2⟩ : ∃ V2, V2 = w1.alloc (.cells #[.bool b1, .slice i1 i2 i3, .slice i4 i5 i6] 74) := ⟨_, rfl⟩
  have hb : Below w1.heap.size w1 V2 := by rw [hV2]; exact (Below.refl _ _).alloc (Nat.le_refl _) _
  have HB2 := hide ((unhide HB1).trans (hb.mono (unhide HB1).size)); have HX := hide ((unhide HV1).later hb)
  have HP : Hid (FBox V2 w1.heap.size (.bool b1) (.slice i1 i2 i3) (.slice i4 i5 i6)) := by rw [hV2]; exact FBox.new _ _ _ _
  rw [← hV2]
  clear hV2 hb HV1 HR HB1 HB0 HS1
  generalize w1.heap.size = g8 at *
  by_cases h : j < 0
  · go_wp2_with fail
    exact bodyPost_ret (v := .tuple #[.string ⟨#[]⟩, .int .i64 1]) (by simp [results, Tryz.results26, go_sem]) rfl ⟨rfl, unhide HB2⟩
  · have h' : 600 < j := by omega
    go_wp2_with fail
    exact bodyPost_ret (v := .tuple #[.string ⟨#[]⟩, .int .i64 1]) (by simp [results, Tryz.results26, go_sem]) rfl ⟨rfl, unhide HB2⟩

set_option maxRecDepth 100000 in
set_option maxHeartbeats 4000000 in
theorem rdigits_ok (n1 d1 : ByteArray) (x : Rat) (p : Nat) (w : World) (h1 : IsR n1 d1 x) (hp : p ≤ 600) (htab : Tab w) : AnsS 26 #[.agg #[.string n1, .string d1], .int .i64 (p : Int)] w (digitsT x p) (digitsE x p) := by
  unfold AnsS
  obtain ⟨V, hV⟩ : ∃ V, V = w.alloc (.cells #[.string n1, .string d1] 23) := ⟨_, rfl⟩
  have HB0 : Hid (Below w.heap.size w V) := by rw [hV]; exact (Below.refl _ _).alloc (Nat.le_refl _) _
  have HS1 : Hid (T2 V w.heap.size (.string n1) (.string d1)) := by rw [hV]; exact ⟨by simp [go_sem], by simp [go_sem], by simp [go_sem], by simp [go_sem]⟩
  have HV := hide hV
  have HR := hide (qread n1 d1 x V h1)
  have hb6 : Bd 600 x := h1.bd
  have HNR : Hid (∀ W v, QOf W v x 67 → Calls Tryz.prog 86 #[v, .int .i64 (p : Int)] W fun e w' => ∃ a l c, e = .returned (.agg #[.slice a l c]) ∧ IsBig w' (.agg #[.slice a l c]) (stepsN x p) ∧ Below W.heap.size W w') := fun W v hv => by
    obtain ⟨b, n, d, hf, hl, hvq, hn, hd⟩ := hv
    obtain ⟨l1, l2, l3⟩ := Cub.low_is hl
    rw [hvq] at l1 l2 l3
    have hN := rN_lt (x := x) (p := (p : Int)) (e := 600) hb6 (by omega)
    have hD := rD_lt (x := x) (p := (p : Int)) (e := 600) hb6 (by omega)
    have hD0 := rD_pos x (p : Int)
    unfold stepsN
    rw [← l2] at hN ⊢
    rw [← l3] at hD hD0 ⊢
    refine nearest_any v b n d _ _ 134 p W hf (by omega) (by omega) (by omega) (Nat.lt_of_lt_of_le hn (Nat.pow_le_pow_right (by omega) (by omega))) (Nat.lt_of_lt_of_le hd (Nat.pow_le_pow_right (by omega) (by omega))) (pow_limbs hN (by omega)) (pow_limbs hD (by omega)) hD0 ?_
    unfold rN rD
    have hj : ¬ (p : Int) < 0 := by omega
    right; rw [if_neg hj, if_neg hj]; exact ⟨hj, rfl, rfl⟩
  have hs := pow_limbs (k := 134) (stepsN_lt (x := x) (p := (p : Int)) (e := 600) hb6 (by omega)) (by omega)
  have HSG : Hid (∀ W b s t, QOf W (.agg #[.bool b, s, t]) x 67 → b = decide (x < 0)) := fun W b s t h => by
    obtain ⟨b', n, d, ⟨s', t', e, _⟩, hl, hvq, _⟩ := h
    obtain ⟨l1, _, _⟩ := Cub.low_is hl
    rw [hvq] at l1
    simp only [Value.agg.injEq, Array.mk.injEq, List.cons.injEq, Value.bool.injEq] at e
    rw [e.1]; exact l1
  have HLN : Hid (∀ W v, IsBig W v (stepsN x p) → Calls Tryz.prog 87 #[v] W fun e w' => e = .returned (.int .i64 ((tx (stepsN x p)).size : Int)) ∧ Below W.heap.size W w') := fun W v hv => by
    rw [tx_digits]; exact len_any v _ 134 W hv (by omega) hs
  have HTX : Hid (∀ W v, IsBig W v (stepsN x p) → Tab W → Calls Tryz.prog 90 #[v] W fun e w' => e = .returned (.string (tx (stepsN x p))) ∧ Below W.heap.size W w') := fun W v hv ht => text_any v _ 134 W hv (by omega) hs ht
  have HT := hide htab
  have k1 : ¬ (p : Int) < 0 := by omega
  have k2 : ¬ 600 < (p : Int) := by omega
  have hts : 1 ≤ (tx (stepsN x p)).size := (tx_last _).1
  obtain ⟨R, hR⟩ : ∃ R, R = digitsT x p := ⟨_, rfl⟩
  obtain ⟨E, hE⟩ : ∃ E, E = digitsE x p := ⟨_, rfl⟩
  rw [← hR, ← hE]
  unfold digitsT digS at hR
  unfold digitsE at hE
  have HRE := hide (And.intro hR hE)
  clear hR hE
  have HPT : Hid ((tx (stepsN x p)).size ≤ 600 → (∀ W, Calls Tryz.prog 89 #[.string (tx (stepsN x p)), .int .i64 (p : Int)] W fun r w' => r = .returned (.string (ptT (tx (stepsN x p)) p)) ∧ Below W.heap.size W w') ∧ (ptT (tx (stepsN x p)) p).size ≤ 1000000) := fun h600 => ⟨fun W => pointed_all _ p W (by omega) (by omega) hts, by have := ptT_size (tx (stepsN x p)) p; omega⟩
  generalize ptT (tx (stepsN x p)) p = pT at *
  generalize tx (stepsN x p) = tT at *
  generalize stepsN x p = sn at *
  clear h1 hb6 hs htab hts
  go_enter Tryz.func26, Tryz.ntmps26
  go_upto_region 1 with fail
  rw [← unhide HV]
  clear hV HV
  have t0 := (unhide HS1).c0; have t1 := (unhide HS1).c1
  go_upto_region 2 with (go_at_call 76; go_must (refine (unhide HR).mono ?_; rintro e w1 ⟨v1, rfl, hv1, hb1⟩; obtain ⟨b1, i1, i2, i3, i4, i5, i6, rfl⟩ := hv1.form; have HB1 := hide ((unhide HB0).trans (hb1.mono (unhide HB0).size)); have HV1 := hide hv1; clear hv1 hb1 t0 t1))
  obtain ⟨V2, hV2⟩ : ∃ V2, V2 = w1.alloc (.cells #[.bool b1, .slice i1 i2 i3, .slice i4 i5 i6] 74) := ⟨_, rfl⟩
  have hb : Below w1.heap.size w1 V2 := by rw [hV2]; exact (Below.refl _ _).alloc (Nat.le_refl _) _
  have HB2 := hide ((unhide HB1).trans (hb.mono (unhide HB1).size)); have HX := hide ((unhide HV1).later hb)
  have HP : Hid (FBox V2 w1.heap.size (.bool b1) (.slice i1 i2 i3) (.slice i4 i5 i6)) := by rw [hV2]; exact FBox.new _ _ _ _
  rw [← hV2]
  clear hV2 hb HV1 HR HB1 HB0 HS1
  generalize w1.heap.size = g8 at *
  have HSGN := hide (unhide HSG _ _ _ _ (unhide HX))
  clear HSG
  have t0 := (unhide HP).c0; have t1 := (unhide HP).c1; have t2 := (unhide HP).c2
  go_upto_region 7 with (go_at_call 86; go_must (refine (unhide HNR _ _ (unhide HX)).mono ?_; rintro e w3 ⟨a3, l3, c3, rfl, hv3, hb3⟩; have HB3 := hide ((unhide HB2).trans (hb3.mono (unhide HB2).size)); have HP3 := hide ((unhide HP).later hb3); have HN3 := hide hv3; clear hv3 hb3 t0 t1 t2))
  obtain ⟨V5, hV5⟩ : ∃ V5, V5 = w3.alloc (.cells #[.slice a3 l3 c3] 72) := ⟨_, rfl⟩
  have hb5 : Below w3.heap.size w3 V5 := by rw [hV5]; exact (Below.refl _ _).alloc (Nat.le_refl _) _
  have HBX : Hid (Box V5 w3.heap.size (.slice a3 l3 c3)) := by rw [hV5]; exact Box.new72 _ _
  have HB5 := hide ((unhide HB3).trans (hb5.mono (unhide HB3).size)); have HP5 := hide ((unhide HP3).later hb5); have HN5 := hide ((unhide HN3).later hb5)
  rw [← hV5]
  clear hV5 hb5 HB2 HB3 HP HP3 HN3 HX HNR
  generalize w3.heap.size = g9 at *
  have u9 := (unhide HBX).c
  by_cases h6 : 600 < tT.size
  · have h6' : (600 : Int) < (tT.size : Int) := by omega
    have HI : Hid (R = ⟨#[]⟩ ∧ E = 7) := ⟨by rw [(unhide HRE).1, if_pos h6], by rw [(unhide HRE).2, if_pos h6]⟩
    clear HRE
    go_wp2_with (go_at_call 87; go_must (refine (unhide HLN _ _ (unhide HN5)).mono ?_; rintro e w6 ⟨rfl, hb6⟩; have HE := hide ((unhide HB5).trans (hb6.mono (unhide HB5).size)); clear hb6 u9))
    exact bodyPost_ret (v := .tuple #[.string ⟨#[]⟩, .int .i64 7]) (by simp [results, Tryz.results26, go_sem]) rfl ⟨by rw [(unhide HI).1, (unhide HI).2], unhide HE⟩
  · have h6' : ¬ (600 : Int) < (tT.size : Int) := by omega
    obtain ⟨hpt, hps⟩ := unhide HPT (by omega)
    have HPP := hide hpt
    obtain ⟨zb, hzb⟩ : ∃ zb, zb = (sn == 0) := ⟨_, rfl⟩
    have HI : Hid (R = (if b1 && !zb then ⟨#[45]⟩ ++ pT else pT) ∧ E = 0) := ⟨by rw [(unhide HRE).1, if_neg h6, unhide HSGN, hzb], by rw [(unhide HRE).2, if_neg h6]⟩
    have HZ := hide hzb
    clear hzb HRE
    clear hpt HPT HSGN
    go_upto_region 9 with (go_at_call 87; go_must (refine (unhide HLN _ _ (unhide HN5)).mono ?_; rintro e w6 ⟨rfl, hb6⟩; have HB6 := hide hb6; clear hb6 u9))
    have q0 : ∀ z : Later w6, z.world.cell? ⟨g8, 0, none⟩ = some (.bool b1) := fun z => ((unhide HP5).later ((unhide HB6).trans (z.below.mono (unhide HB6).size))).c0
    have q1 : ∀ z : Later w6, z.world.cell? ⟨g9, 0, none⟩ = some (.slice a3 l3 c3) := fun z => ((unhide HBX).later ((unhide HB6).trans (z.below.mono (unhide HB6).size))).c
    have HZB : Hid (∀ z : Later w6, Below w.heap.size w z.world ∧ IsBig z.world (.agg #[.slice a3 l3 c3]) sn) := fun z => by
      have hb := (unhide HB6).trans (z.below.mono (unhide HB6).size)
      exact ⟨(unhide HB5).trans (hb.mono (unhide HB5).size), (unhide HN5).later hb⟩
    have H88 : Hid (∀ z : Later w6, Calls Tryz.prog 88 #[.agg #[.slice a3 l3 c3]] z.world fun e w' => e = .returned (.bool zb) ∧ Below z.world.heap.size z.world w') := fun z => by rw [unhide HZ]; exact isZero_any _ _ _ (unhide HZB z).2
    have H90 : Hid (∀ z : Later w6, Calls Tryz.prog 90 #[.agg #[.slice a3 l3 c3]] z.world fun e w' => e = .returned (.string tT) ∧ Below z.world.heap.size z.world w') := fun z => unhide HTX _ _ (unhide HZB z).2 ((unhide HT).later (unhide HZB z).1)
    have H89 : Hid (∀ z : Later w6, Calls Tryz.prog 89 #[.string tT, .int .i64 (p : Int)] z.world fun e w' => e = .returned (.string pT) ∧ Below z.world.heap.size z.world w') := fun z => unhide HPP _
    have H78 : Hid (∀ (z : Later w6) (b : Bool), Calls Tryz.prog 78 #[.bool b, .string pT] z.world fun e w' => e = .returned (.string (if b then ⟨#[45]⟩ ++ pT else pT)) ∧ Below z.world.heap.size z.world w') := fun z b => (signed_any b pT z.world hps).mono (by rintro e w' ⟨rfl, rfl⟩; exact ⟨rfl, Below.refl _ _⟩)
    cases b1 with
    | false =>
      refine quiet_later (by kernel_rfl) (by kernel_rfl) ?_
      repeat (go_big_quiet_step (first
        | (go_at_call 88; rename_i xx; refine (unhide H88 xx).mono ?_; rintro e w9 ⟨rfl, hb9⟩; have hz := xx.below.trans (hb9.mono xx.below.size); first | exact ⟨rfl, ⟨w9, hz⟩, rfl⟩ | exact ⟨rfl, hz⟩ | exact ⟨rfl, w9, hz, rfl⟩)
        | (go_at_call 90; rename_i xx; refine (unhide H90 xx).mono ?_; rintro e w9 ⟨rfl, hb9⟩; have hz := xx.below.trans (hb9.mono xx.below.size); first | exact ⟨rfl, ⟨w9, hz⟩, rfl⟩ | exact ⟨rfl, hz⟩ | exact ⟨rfl, w9, hz, rfl⟩)
        | (go_at_call 89; rename_i xx; refine (unhide H89 xx).mono ?_; rintro e w9 ⟨rfl, hb9⟩; have hz := xx.below.trans (hb9.mono xx.below.size); first | exact ⟨rfl, ⟨w9, hz⟩, rfl⟩ | exact ⟨rfl, hz⟩ | exact ⟨rfl, w9, hz, rfl⟩)
        | (go_at_call 78; rename_i xx; refine (unhide H78 xx _).mono ?_; rintro e w9 ⟨rfl, hb9⟩; have hz := xx.below.trans (hb9.mono xx.below.size); first | exact ⟨rfl, ⟨w9, hz⟩, rfl⟩ | exact ⟨rfl, hz⟩ | exact ⟨rfl, w9, hz, rfl⟩)))
      refine wpQuiet_nil ?_
      intro _ hw'
      obtain ⟨xz, hw''⟩ := hw'
      subst hw''
      have HE := hide (unhide HZB xz).1
      clear q0 q1
      go_wp2_with fail
      exact bodyPost_ret (v := .tuple #[.string pT, .int .i64 0]) (by simp [results, Tryz.results26, go_sem]) rfl ⟨by rw [(unhide HI).1, (unhide HI).2]; rfl, unhide HE⟩
    | true =>
      cases zb with
      | true =>
        refine quiet_later (by kernel_rfl) (by kernel_rfl) ?_
        repeat (go_big_quiet_step (first
          | (go_at_call 88; rename_i xx; refine (unhide H88 xx).mono ?_; rintro e w9 ⟨rfl, hb9⟩; have hz := xx.below.trans (hb9.mono xx.below.size); first | exact ⟨rfl, ⟨w9, hz⟩, rfl⟩ | exact ⟨rfl, hz⟩ | exact ⟨rfl, w9, hz, rfl⟩)
          | (go_at_call 90; rename_i xx; refine (unhide H90 xx).mono ?_; rintro e w9 ⟨rfl, hb9⟩; have hz := xx.below.trans (hb9.mono xx.below.size); first | exact ⟨rfl, ⟨w9, hz⟩, rfl⟩ | exact ⟨rfl, hz⟩ | exact ⟨rfl, w9, hz, rfl⟩)
          | (go_at_call 89; rename_i xx; refine (unhide H89 xx).mono ?_; rintro e w9 ⟨rfl, hb9⟩; have hz := xx.below.trans (hb9.mono xx.below.size); first | exact ⟨rfl, ⟨w9, hz⟩, rfl⟩ | exact ⟨rfl, hz⟩ | exact ⟨rfl, w9, hz, rfl⟩)
          | (go_at_call 78; rename_i xx; refine (unhide H78 xx _).mono ?_; rintro e w9 ⟨rfl, hb9⟩; have hz := xx.below.trans (hb9.mono xx.below.size); first | exact ⟨rfl, ⟨w9, hz⟩, rfl⟩ | exact ⟨rfl, hz⟩ | exact ⟨rfl, w9, hz, rfl⟩)))
        refine wpQuiet_nil ?_
        intro _ hw'
        obtain ⟨xz, hw''⟩ := hw'
        subst hw''
        have HE := hide (unhide HZB xz).1
        clear q0 q1
        go_wp2_with fail
        exact bodyPost_ret (v := .tuple #[.string pT, .int .i64 0]) (by simp [results, Tryz.results26, go_sem]) rfl ⟨by rw [(unhide HI).1, (unhide HI).2]; rfl, unhide HE⟩
      | false =>
        refine quiet_later (by kernel_rfl) (by kernel_rfl) ?_
        repeat (go_big_quiet_step (first
          | (go_at_call 88; rename_i xx; refine (unhide H88 xx).mono ?_; rintro e w9 ⟨rfl, hb9⟩; have hz := xx.below.trans (hb9.mono xx.below.size); first | exact ⟨rfl, ⟨w9, hz⟩, rfl⟩ | exact ⟨rfl, hz⟩ | exact ⟨rfl, w9, hz, rfl⟩)
          | (go_at_call 90; rename_i xx; refine (unhide H90 xx).mono ?_; rintro e w9 ⟨rfl, hb9⟩; have hz := xx.below.trans (hb9.mono xx.below.size); first | exact ⟨rfl, ⟨w9, hz⟩, rfl⟩ | exact ⟨rfl, hz⟩ | exact ⟨rfl, w9, hz, rfl⟩)
          | (go_at_call 89; rename_i xx; refine (unhide H89 xx).mono ?_; rintro e w9 ⟨rfl, hb9⟩; have hz := xx.below.trans (hb9.mono xx.below.size); first | exact ⟨rfl, ⟨w9, hz⟩, rfl⟩ | exact ⟨rfl, hz⟩ | exact ⟨rfl, w9, hz, rfl⟩)
          | (go_at_call 78; rename_i xx; refine (unhide H78 xx _).mono ?_; rintro e w9 ⟨rfl, hb9⟩; have hz := xx.below.trans (hb9.mono xx.below.size); first | exact ⟨rfl, ⟨w9, hz⟩, rfl⟩ | exact ⟨rfl, hz⟩ | exact ⟨rfl, w9, hz, rfl⟩)))
        refine wpQuiet_nil ?_
        intro _ hw'
        obtain ⟨xz, hw''⟩ := hw'
        subst hw''
        have HE := hide (unhide HZB xz).1
        clear q0 q1
        go_wp2_with fail
        exact bodyPost_ret (v := .tuple #[.string (⟨#[45]⟩ ++ pT), .int .i64 0]) (by simp [results, Tryz.results26, go_sem]) rfl ⟨by rw [(unhide HI).1, (unhide HI).2]; rfl, unhide HE⟩
end Go.Proofs.YtoinadnpdbaamaaGreatDoor

namespace Go.Proofs.YtoinadnpdbaamaaGreatDoor
open Go.RowKit
theorem pt_bytes (mm m : ByteArray) (p : Nat) (h : mm.data.toList = padZ m.data.toList p) (hp : p ≠ 0) (sg : ByteArray) : sg ++ ptT m p = sg ++ mm.extract 0 (mm.size - p) ++ ⟨#[46]⟩ ++ mm.extract (mm.size - p) mm.size := by
  apply bytes_ext
  unfold ptT
  rw [if_neg hp]
  have hl : (padZ m.data.toList p).length = mm.size := by rw [← h, list_len]
  unfold pt
  rw [hl, ← h]
  simp
  rw [List.take_of_length_le (by simp)]

set_option maxRecDepth 100000 in
set_option maxHeartbeats 4000000 in
theorem refDigits_no (n1 d1 : ByteArray) (j : Int) (w : World) (h18 : ∀ W, Calls Tryz.prog 18 #[.agg #[.string n1, .string d1]] W fun r w' => r = .returned (.bool false) ∧ Below W.heap.size W w') : AnsS 27 #[.agg #[.string n1, .string d1], .int .i64 j] w ⟨#[]⟩ 3 := by
  unfold AnsS
  obtain ⟨V, hV⟩ : ∃ V, V = w.alloc (.cells #[.string n1, .string d1] 23) := ⟨_, rfl⟩
  have HB0 : Hid (Below w.heap.size w V) := by rw [hV]; exact (Below.refl _ _).alloc (Nat.le_refl _) _
  have HS1 : Hid (T2 V w.heap.size (.string n1) (.string d1)) := by rw [hV]; exact ⟨by simp [go_sem], by simp [go_sem], by simp [go_sem], by simp [go_sem]⟩
  have HV := hide hV
  have HA := hide h18
  clear h18
  go_enter Tryz.func27, Tryz.ntmps27
  go_upto_region 1 with fail
  rw [← unhide HV]
  clear hV HV
  have t0 := (unhide HS1).c0; have t1 := (unhide HS1).c1
  go_wp2_with (go_at_call 18; go_must (refine (unhide HA _).mono ?_; rintro e w1 ⟨rfl, hb1⟩; have HB1 := hide ((unhide HB0).trans (hb1.mono (unhide HB0).size)); have HS2 := hide ((unhide HS1).later hb1); clear hb1 t0 t1; have t0 := (unhide HS2).c0; have t1 := (unhide HS2).c1))
  exact bodyPost_ret (v := .tuple #[.string ⟨#[]⟩, .int .i64 3]) (by simp [results, Tryz.results27, go_sem]) rfl ⟨rfl, unhide HB1⟩

set_option maxRecDepth 100000 in
set_option maxHeartbeats 4000000 in
theorem refDigits_arg (n1 d1 : ByteArray) (j : Int) (w : World) (h18 : ∀ W, Calls Tryz.prog 18 #[.agg #[.string n1, .string d1]] W fun r w' => r = .returned (.bool true) ∧ Below W.heap.size W w') (hj : j < 0 ∨ 600 < j) : AnsS 27 #[.agg #[.string n1, .string d1], .int .i64 j] w ⟨#[]⟩ 1 := by
  unfold AnsS
  obtain ⟨V, hV⟩ : ∃ V, V = w.alloc (.cells #[.string n1, .string d1] 23) := ⟨_, rfl⟩
  have HB0 : Hid (Below w.heap.size w V) := by rw [hV]; exact (Below.refl _ _).alloc (Nat.le_refl _) _
  have HS1 : Hid (T2 V w.heap.size (.string n1) (.string d1)) := by rw [hV]; exact ⟨by simp [go_sem], by simp [go_sem], by simp [go_sem], by simp [go_sem]⟩
  have HV := hide hV
  have HA := hide h18
  clear h18
  go_enter Tryz.func27, Tryz.ntmps27
  go_upto_region 1 with fail
  rw [← unhide HV]
  clear hV HV
  have t0 := (unhide HS1).c0; have t1 := (unhide HS1).c1
  by_cases h : j < 0
  · go_wp2_with (go_at_call 18; go_must (refine (unhide HA _).mono ?_; rintro e w1 ⟨rfl, hb1⟩; have HB1 := hide ((unhide HB0).trans (hb1.mono (unhide HB0).size)); have HS2 := hide ((unhide HS1).later hb1); clear hb1 t0 t1; have t0 := (unhide HS2).c0; have t1 := (unhide HS2).c1))
    exact bodyPost_ret (v := .tuple #[.string ⟨#[]⟩, .int .i64 1]) (by simp [results, Tryz.results27, go_sem]) rfl ⟨rfl, unhide HB1⟩
  · have h' : 600 < j := by omega
    go_wp2_with (go_at_call 18; go_must (refine (unhide HA _).mono ?_; rintro e w1 ⟨rfl, hb1⟩; have HB1 := hide ((unhide HB0).trans (hb1.mono (unhide HB0).size)); have HS2 := hide ((unhide HS1).later hb1); clear hb1 t0 t1; have t0 := (unhide HS2).c0; have t1 := (unhide HS2).c1))
    exact bodyPost_ret (v := .tuple #[.string ⟨#[]⟩, .int .i64 1]) (by simp [results, Tryz.results27, go_sem]) rfl ⟨rfl, unhide HB1⟩

set_option maxRecDepth 100000 in
set_option maxHeartbeats 4000000 in
theorem refDigits_walk (n1 d1 s t m R : ByteArray) (b zb : Bool) (E : Int) (p : Nat) (w : World) (hp : p ≤ 600) (hm1 : 1 ≤ m.size) (hm2 : m.size ≤ 5000) (hzb : (m.toList == [48]) = zb) (h18 : ∀ W, Calls Tryz.prog 18 #[.agg #[.string n1, .string d1]] W fun r w' => r = .returned (.bool true) ∧ Below W.heap.size W w')
    (hrd : ∀ W, Calls Tryz.prog 62 #[.agg #[.string n1, .string d1]] W fun r w' => r = .returned (.agg #[.bool b, .string s, .string t]) ∧ Below W.heap.size W w')
    (hst : ∀ W, Calls Tryz.prog 91 #[.agg #[.bool b, .string s, .string t], .int .i64 (p : Int)] W fun r w' => r = .returned (.string m) ∧ Below W.heap.size W w')
    (hRE : R = (if 600 < m.size then ⟨#[]⟩ else if b && !zb then ⟨#[45]⟩ ++ ptT m p else ptT m p) ∧ E = (if 600 < m.size then 7 else 0)) : AnsS 27 #[.agg #[.string n1, .string d1], .int .i64 (p : Int)] w R E := by
  unfold AnsS
  obtain ⟨V, hV⟩ : ∃ V, V = w.alloc (.cells #[.string n1, .string d1] 23) := ⟨_, rfl⟩
  have HB0 : Hid (Below w.heap.size w V) := by rw [hV]; exact (Below.refl _ _).alloc (Nat.le_refl _) _
  have HS1 : Hid (T2 V w.heap.size (.string n1) (.string d1)) := by rw [hV]; exact ⟨by simp [go_sem], by simp [go_sem], by simp [go_sem], by simp [go_sem]⟩
  have HV := hide hV
  have HA := hide h18
  have HRD := hide hrd; have HST := hide hst; have HRE := hide hRE
  have k1 : ¬ (p : Int) < 0 := by omega
  have k2 : ¬ 600 < (p : Int) := by omega
  clear h18 hrd hst hRE
  go_enter Tryz.func27, Tryz.ntmps27
  go_upto_region 1 with fail
  rw [← unhide HV]
  clear hV HV
  have t0 := (unhide HS1).c0; have t1 := (unhide HS1).c1
  go_upto_region 6 with (first
    | (go_at_call 18; go_must (refine (unhide HA _).mono ?_; rintro e w1 ⟨rfl, hb1⟩; have HB1 := hide ((unhide HB0).trans (hb1.mono (unhide HB0).size)); have HS2 := hide ((unhide HS1).later hb1); clear hb1 t0 t1; have t0 := (unhide HS2).c0; have t1 := (unhide HS2).c1))
    | (go_at_call 62; go_must (refine (unhide HRD _).mono ?_; rintro e w2 ⟨rfl, hb2⟩; have HB2 := hide ((unhide HB1).trans (hb2.mono (unhide HB1).size)); clear hb2 t0 t1)))
  obtain ⟨V2, hV2⟩ : ∃ V2, V2 = w2.alloc (.cells #[.bool b, .string s, .string t] 61) := ⟨_, rfl⟩
  have hb : Below w2.heap.size w2 V2 := by rw [hV2]; exact (Below.refl _ _).alloc (Nat.le_refl _) _
  have HB3 := hide ((unhide HB2).trans (hb.mono (unhide HB2).size))
  have HP : Hid (FBox V2 w2.heap.size (.bool b) (.string s) (.string t)) := by rw [hV2]; exact FBox.new61 _ _ _ _
  rw [← hV2]
  clear hV2 hb HB0 HB1 HB2 HS1 HS2
  generalize w2.heap.size = g8 at *
  have t0 := (unhide HP).c0; have t1 := (unhide HP).c1; have t2 := (unhide HP).c2
  go_upto_region 7 with (go_at_call 91; go_must (refine (unhide HST _).mono ?_; rintro e w3 ⟨rfl, hb3⟩; have HB4 := hide ((unhide HB3).trans (hb3.mono (unhide HB3).size)); have HP3 := hide ((unhide HP).later hb3); clear hb3 t0 t1 t2; have t0 := (unhide HP3).c0))
  by_cases h6 : 600 < m.size
  · have h6' : (600 : Int) < (m.size : Int) := by omega
    have HI : Hid (R = ⟨#[]⟩ ∧ E = 7) := ⟨by rw [(unhide HRE).1, if_pos h6], by rw [(unhide HRE).2, if_pos h6]⟩
    clear HRE h6
    go_wp2_with fail
    exact bodyPost_ret (v := .tuple #[.string ⟨#[]⟩, .int .i64 7]) (by simp [results, Tryz.results27, go_sem]) rfl ⟨by rw [(unhide HI).1, (unhide HI).2], unhide HB4⟩
  · have h6' : ¬ (600 : Int) < (m.size : Int) := by omega
    obtain ⟨sg, hsg⟩ : ∃ sg : ByteArray, sg = (if b && !zb then ⟨#[45]⟩ else ⟨#[]⟩) := ⟨_, rfl⟩
    have HI : Hid (R = sg ++ ptT m p ∧ E = 0) := by
      refine ⟨?_, by rw [(unhide HRE).2, if_neg h6]⟩
      rw [(unhide HRE).1, if_neg h6, hsg]
      split
      · rfl
      · exact bytes_ext (by simp)
    have hsz : sg.size ≤ 1 := by rw [hsg]; split <;> decide
    have HSG := hide hsg
    clear HRE hsg
    have l1 : (⟨#[46]⟩ : ByteArray).size = 1 := rfl
    have l2 : (⟨#[45]⟩ : ByteArray).size = 1 := rfl
    have l3 : (⟨#[]⟩ : ByteArray).size = 0 := rfl
    by_cases p0 : p = 0
    · have HP0 : Hid (ptT m p = m) := by show _ = _; unfold ptT; rw [if_pos p0]
      have e0 : ((p : Int) == 0) = true := by rw [beq_iff_eq]; omega
      have e1 : ¬ (m.size : Int) ≤ (p : Int) := by omega
      clear p0
      cases b <;> cases zb <;> (
        have hh := unhide HSG
        simp at hh
        have HRR : Hid (R = sg ++ m ∧ E = 0) := ⟨by rw [(unhide HI).1, unhide HP0], (unhide HI).2⟩
        rw [hh] at HRR
        clear HI HSG hsz hh HP0
        go_wp2_with fail
        exact bodyPost_ret (v := .tuple #[.string R, .int .i64 E]) (by rw [(unhide HRR).1, (unhide HRR).2]; simp [results, Tryz.results27, go_sem]) rfl ⟨rfl, unhide HB4⟩)
    · have e0 : ((p : Int) == 0) = false := by rw [beq_eq_false_iff_ne]; omega
      by_cases hle : m.size ≤ p
      · obtain ⟨k, hk⟩ : ∃ k : Nat, (p : Int) + 1 - (m.size : Int) = (k : Int) := ⟨p + 1 - m.size, by omega⟩
        have e1 : (m.size : Int) ≤ (p : Int) := by omega
        obtain ⟨z, hz⟩ : ∃ z : ByteArray, z = ⟨(List.replicate k 48).toArray⟩ := ⟨_, rfl⟩
        have HZ : Hid (∀ W, Calls Tryz.prog 66 #[.int .i64 (k : Int)] W fun r w' => r = .returned (.string z) ∧ Below W.heap.size W w') := fun W => by rw [hz]; exact refZeros k W (by omega)
        have hzs : z.size = k := by rw [hz]; show (List.replicate k (48 : UInt8)).toArray.size = k; simp
        obtain ⟨mm, hmm⟩ : ∃ mm, mm = z ++ m := ⟨_, rfl⟩
        have hms : mm.size = p + 1 := by rw [hmm, ByteArray.size_append]; omega
        have HPB := hide (pt_bytes mm m p (by rw [hmm, hz]; unfold padZ; rw [list_len, show p + 1 - m.size = k by omega]; simp) p0)
        have e2 : (mm.size : Int) - (p : Int) = 1 := by omega
        have e3 : (1 : Int) ≤ (mm.size : Int) := by omega
        have e4 : mm.size ≤ 1000 := by omega
        have HMM := hide hmm
        rw [show mm.size - p = 1 by omega] at HPB
        clear hz p0 hle hmm hms
        cases b <;> cases zb <;> (
          have hh := unhide HSG
          simp at hh
          have HRR : Hid (R = sg ++ mm.extract 0 1 ++ ⟨#[46]⟩ ++ mm.extract 1 mm.size ∧ E = 0) := ⟨by rw [(unhide HI).1, unhide HPB sg], (unhide HI).2⟩
          rw [hh] at HRR
          clear HI HSG hsz hh HPB
          go_upto_region 16 with (go_at_call 66; go_must (refine (unhide HZ _).mono ?_; rintro e w5 ⟨rfl, hb5⟩; have HB5 := hide ((unhide HB4).trans (hb5.mono (unhide HB4).size)); clear hb5))
          rw [← unhide HMM]
          refine quiet_later (by kernel_rfl) (by kernel_rfl) ?_
          repeat (go_big_quiet_step (fail))
          refine wpQuiet_nil ?_
          intro _ hw'
          obtain ⟨xz, hw''⟩ := hw'
          subst hw''
          have HE := hide ((unhide HB5).trans (xz.below.mono (unhide HB5).size))
          go_wp2_with fail
          exact bodyPost_ret (v := .tuple #[.string R, .int .i64 E]) (by rw [(unhide HRR).1, (unhide HRR).2]; simp [results, Tryz.results27, go_sem]) rfl ⟨rfl, unhide HE⟩)
      · obtain ⟨k, hk⟩ : ∃ k : Nat, (m.size : Int) - (p : Int) = (k : Int) := ⟨m.size - p, by omega⟩
        have e1 : ¬ (m.size : Int) ≤ (p : Int) := by omega
        have HPB := hide (pt_bytes m m p (by unfold padZ; rw [list_len, show p + 1 - m.size = 0 by omega]; rfl) p0)
        rw [show m.size - p = k by omega] at HPB
        have hkm : (k : Int) ≤ (m.size : Int) := by omega
        clear p0 hle
        cases b <;> cases zb <;> (
          have hh := unhide HSG
          simp at hh
          have HRR : Hid (R = sg ++ m.extract 0 k ++ ⟨#[46]⟩ ++ m.extract k m.size ∧ E = 0) := ⟨by rw [(unhide HI).1, unhide HPB sg], (unhide HI).2⟩
          rw [hh] at HRR
          clear HI HSG hsz hh HPB
          go_upto_region 16 with fail
          refine quiet_later (by kernel_rfl) (by kernel_rfl) ?_
          repeat (go_big_quiet_step (fail))
          refine wpQuiet_nil ?_
          intro _ hw'
          obtain ⟨xz, hw''⟩ := hw'
          subst hw''
          have HE := hide ((unhide HB4).trans (xz.below.mono (unhide HB4).size))
          go_wp2_with fail
          exact bodyPost_ret (v := .tuple #[.string R, .int .i64 E]) (by rw [(unhide HRR).1, (unhide HRR).2]; simp [results, Tryz.results27, go_sem]) rfl ⟨rfl, unhide HE⟩)
end Go.Proofs.YtoinadnpdbaamaaGreatDoor

namespace Go.Proofs.YtoinadnpdbaamaaGreatDoor
open Go.RowKit

theorem both_print (n1 d1 : ByteArray) (s1 : n1.size ≤ maxLen) (s2 : d1.size ≤ maxLen) : BothS 24 25 #[.agg #[.string n1, .string d1]] := by
  by_cases h : RightT n1 d1
  · obtain ⟨x, h1⟩ := (right_isR n1 d1).1 h
    obtain ⟨b, n, d, e1, e2, hn, hd, _⟩ := h
    have hz : n1.size ≤ 1000000 ∧ d1.size ≤ 1000000 := by
      have z1 := tb_size n hn
      have z2 := (tb_digs n hn).2
      have z3 := (tb_digs d hd).2
      rw [e1, e2]
      refine ⟨?_, by omega⟩
      unfold sT
      split
      · rw [ByteArray.size_append, show (⟨#[45]⟩ : ByteArray).size = 1 from rfl]; omega
      · omega
    exact ⟨_, _, fun w _ => print24 n1 d1 true w (fun _ => hz) (fun W => ratRight_any n1 d1 true W (reads_yes ⟨b, n, d, e1, e2, hn, hd, by assumption⟩)), fun w => print25 n1 d1 true w (fun _ => hz) (ref18_yes h1)⟩
  · obtain ⟨p, hp, h18a⟩ := ref18_any n1 d1 s1 s2
    have hp' : p = false := by cases p with | false => rfl | true => exact absurd (hp.1 rfl) h
    rw [hp'] at h18a
    exact ⟨_, _, fun w _ => print24 n1 d1 false w (fun e => by cases e) (fun W => ratRight_any n1 d1 false W (reads_no s1 s2 h)), fun w => print25 n1 d1 false w (fun e => by cases e) h18a⟩
theorem both_digits (n1 d1 : ByteArray) (j : Int) (s1 : n1.size ≤ maxLen) (s2 : d1.size ≤ maxLen) : BothS 26 27 #[.agg #[.string n1, .string d1], .int .i64 j] := by
  by_cases h : RightT n1 d1
  · obtain ⟨x, h1⟩ := (right_isR n1 d1).1 h
    by_cases hr : j < 0 ∨ 600 < j
    · exact ⟨_, _, fun w _ => rdigits_arg n1 d1 x j w h1 hr, fun w => refDigits_arg n1 d1 j w (ref18_yes h1) hr⟩
    · obtain ⟨p, hp⟩ : ∃ p : Nat, j = (p : Int) := ⟨j.toNat, by omega⟩
      subst hp
      refine ⟨_, _, fun w ht => rdigits_ok n1 d1 x p w h1 (by omega) ht, fun w => ?_⟩
      have hb := h1.bd
      have hm := tx_size (by omega) (stepsN_lt (x := x) (p := (p : Int)) (e := 600) hb (by omega))
      have hz : ((tx (stepsN x p)).toList == [48]) = (stepsN x p == 0) := by
        rcases Nat.eq_zero_or_pos (stepsN x p) with h0 | h0
        · rw [h0, tx_zero]; rfl
        · rw [tx_pos _ h0]; symm; rw [beq_eq_false_iff_ne]; omega
      have hrd : ∀ W, Calls Tryz.prog 62 #[.agg #[.string n1, .string d1]] W fun r w' => r = .returned (.agg #[.bool (decide (x < 0)), .string (tx x.num.natAbs), .string (tx x.den)]) ∧ Below W.heap.size W w' := fun W => refRead n1 d1 x W h1
      have hst : ∀ W, Calls Tryz.prog 91 #[.agg #[.bool (decide (x < 0)), .string (tx x.num.natAbs), .string (tx x.den)], .int .i64 (p : Int)] W fun r w' => r = .returned (.string (tx (stepsN x p))) ∧ Below W.heap.size W w' := fun W => refSteps (d := 600) (e := 600) W (by omega) (by omega) hb (by omega) (by omega)
      exact refDigits_walk n1 d1 _ _ _ _ _ _ _ p w (by omega) (tx_last _).1 (by omega) hz (ref18_yes h1) hrd hst ⟨rfl, rfl⟩
  · obtain ⟨p, hp, h18a⟩ := ref18_any n1 d1 s1 s2
    have hp' : p = false := by cases p with | false => rfl | true => exact absurd (hp.1 rfl) h
    rw [hp'] at h18a
    exact ⟨_, _, fun w _ => rdigits_no n1 d1 j w (reads_no s1 s2 h), fun w => refDigits_no n1 d1 j w h18a⟩

set_option maxRecDepth 100000 in
set_option maxHeartbeats 4000000 in
theorem law_prints (n1 d1 : ByteArray) (n : Int) (w : World) (htab : Tab w) (s1 : n1.size ≤ maxLen) (s2 : d1.size ≤ maxLen) :
    Calls Tryz.prog 5 #[.agg #[.string n1, .string d1], .int .i64 n] w fun r w' => r = .returned (.bool true) ∧ Below w.heap.size w w' := by
  obtain ⟨sa, ea, hpa, hda⟩ := both_print n1 d1 s1 s2
  obtain ⟨sb, eb, hpb, hdb⟩ := both_digits n1 d1 n s1 s2
  unfold AnsS at hpa hda hpb hdb
  have HPA := hide hpa; have HDA := hide hda; have HPB := hide hpb; have HDB := hide hdb
  clear hpa hda hpb hdb
  obtain ⟨V, hV⟩ : ∃ V, V = w.alloc (.cells #[.string n1, .string d1] 23) := ⟨_, rfl⟩
  have hbV : Below w.heap.size w V := by rw [hV]; exact (Below.refl _ _).alloc (Nat.le_refl _) _
  have HS : Hid (T2 V w.heap.size (.string n1) (.string d1) ∧ Below w.heap.size w V) := ⟨by rw [hV]; exact ⟨by simp [go_sem], by simp [go_sem], by simp [go_sem], by simp [go_sem]⟩, hbV⟩
  have HV := hide hV
  have HTW := hide htab
  have HAW := hide (fun W (hb : Below w.heap.size w W) => awake_any W (htab.later hb))
  clear s1 s2 htab hbV
  go_enter Tryz.func5, Tryz.ntmps5
  go_upto_region 1 with fail
  rw [← unhide HV]
  clear hV HV
  have t0 := (unhide HS).1.c0; have t1 := (unhide HS).1.c1
  go_wp2_with (first
    | (go_at_call 24; go_must (refine (unhide HPA _ ((unhide HTW).later (unhide HS).2)).mono ?_; rintro e w1 ⟨rfl, hb⟩; have HS1 : Hid (T2 w1 w.heap.size (.string n1) (.string d1) ∧ Below w.heap.size w w1) := ⟨(unhide HS).1.later hb, (unhide HS).2.trans (hb.mono (unhide HS).2.size)⟩; clear hb t0 t1; have t0 := (unhide HS1).1.c0; have t1 := (unhide HS1).1.c1))
    | (go_at_call 25; go_must (refine (unhide HDA _).mono ?_; rintro e w2 ⟨rfl, hb⟩; have HS2 : Hid (T2 w2 w.heap.size (.string n1) (.string d1) ∧ Below w.heap.size w w2) := ⟨(unhide HS1).1.later hb, (unhide HS1).2.trans (hb.mono (unhide HS1).2.size)⟩; clear hb t0 t1; have t0 := (unhide HS2).1.c0; have t1 := (unhide HS2).1.c1))
    | (go_at_call 26; go_must (refine (unhide HPB _ ((unhide HTW).later (unhide HS2).2)).mono ?_; rintro e w3 ⟨rfl, hb⟩; have HS3 : Hid (T2 w3 w.heap.size (.string n1) (.string d1) ∧ Below w.heap.size w w3) := ⟨(unhide HS2).1.later hb, (unhide HS2).2.trans (hb.mono (unhide HS2).2.size)⟩; clear hb t0 t1; have t0 := (unhide HS3).1.c0; have t1 := (unhide HS3).1.c1))
    | (go_at_call 27; go_must (refine (unhide HDB _).mono ?_; rintro e w4 ⟨rfl, hb⟩; have HS4 : Hid (T2 w4 w.heap.size (.string n1) (.string d1) ∧ Below w.heap.size w w4) := ⟨(unhide HS3).1.later hb, (unhide HS3).2.trans (hb.mono (unhide HS3).2.size)⟩; clear hb t0 t1))
    | (go_at_call 21; go_must (refine (unhide HAW _ (unhide HS4).2).mono ?_; rintro e w9 ⟨rfl, hb9⟩; have HE := hide ((unhide HS4).2.trans (hb9.mono (unhide HS4).2.size)); clear hb9)))
  go_ret
  exact ⟨by simp, unhide HE⟩
end Go.Proofs.YtoinadnpdbaamaaGreatDoor

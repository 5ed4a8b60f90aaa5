/- The document's Chain. -/
import Derived.Test.YtndhinoomlofgaaGreatDoorRefRead
import Derived.Test.YtndhinoomlofgaaGreatDoorQuo
import Derived.Test.YtndhinoomlofgaaGreatDoorFieldM
import Derived.Test.YtndhinoomlofgaaGreatDoorRefFr
import Derived.Test.YtndhinoomlofgaaGreatDoorChainT
import Derived.Deep.Quiet
import Derived.Test.YtndhinoomlofgaaGreatDoorFCmp
import Derived.Deep.RegionHeld3
import Derived.Deep.Cut
import Derived.Deep.LoopGhost
namespace Go.Proofs.YtndhinoomlofgaaGreatDoor
open Go.RowKit

set_option maxRecDepth 100000 in
set_option maxHeartbeats 2000000 in
theorem refTold_large (b : Bool) (s t : ByteArray) (w : World) (hl : 600 < s.size ∨ 600 < t.size) (hs : s.size ≤ 5000) (ht : t.size ≤ 5000) :
    Ans 76 #[.agg #[.bool b, .string s, .string t]] w ⟨#[]⟩ ⟨#[]⟩ 7 := by
  unfold Ans
  obtain ⟨V, hV⟩ : ∃ V, V = (w.alloc (.cells #[.bool b, .string s, .string t] 61)).alloc (.cells #[.string ⟨#[]⟩, .string ⟨#[]⟩] 23) := ⟨_, rfl⟩
  have hbV : Below w.heap.size w V := by rw [hV]; exact ((Below.refl _ _).alloc (Nat.le_refl _) _).alloc (by simp) _
  have HR : Hid (T2 V (w.heap.size + 1) (.string ⟨#[]⟩) (.string ⟨#[]⟩) ∧ Below w.heap.size w V) := ⟨by rw [hV]; exact ⟨by simp [go_sem], by simp [go_sem], by simp [go_sem], by simp [go_sem]⟩, hbV⟩
  have HF : Hid (FBox V w.heap.size (.bool b) (.string s) (.string t)) := by rw [hV]; exact ⟨by simp [go_sem], by simp [go_sem], by simp [go_sem], by simp [go_sem], by simp [go_sem], by simp [go_sem]⟩
  have HV := hide hV
  clear hbV
  have t0 := (unhide HF).c0; have t1 := (unhide HF).c1; have t2 := (unhide HF).c2
  have r0 := (unhide HR).1.c0; have r1 := (unhide HR).1.c1; have rf0 := (unhide HR).1.f0; have rf1 := (unhide HR).1.f1
  have hS := (unhide HR).1.store (.string ⟨#[]⟩) (.string ⟨#[]⟩)
  have hb : Below w.heap.size w (store2 V (w.heap.size + 1) (.string ⟨#[]⟩) (.string ⟨#[]⟩)) := below_store2 (unhide HR).2 (by omega) _ _
  have u0 := hS.c0; have u1 := hS.c1
  have HB9 := hide hb
  clear hb hS
  rcases Nat.lt_or_ge 600 s.size with h1 | h1
  · have i1 : (600 : Int) < (s.size : Int) := by omega
    clear hl
    go_enter Tryz.func76, Tryz.ntmps76
    go_upto_region 1 with fail
    rw [← unhide HV]
    clear hV HV
    go_wp2_with fail
    exact bodyPost_ret (v := .tuple #[.agg #[.string ⟨#[]⟩, .string ⟨#[]⟩], .int .i64 7]) (w := store2 V (w.heap.size + 1) (.string ⟨#[]⟩) (.string ⟨#[]⟩)) (by simp [results, Tryz.results76, go_sem, u0, u1]) rfl ⟨rfl, unhide HB9⟩
  · have i1 : ¬ (600 : Int) < (s.size : Int) := by omega
    have i2 : (600 : Int) < (t.size : Int) := by omega
    clear hl
    go_enter Tryz.func76, Tryz.ntmps76
    go_upto_region 1 with fail
    rw [← unhide HV]
    clear hV HV
    go_wp2_with fail
    exact bodyPost_ret (v := .tuple #[.agg #[.string ⟨#[]⟩, .string ⟨#[]⟩], .int .i64 7]) (w := store2 V (w.heap.size + 1) (.string ⟨#[]⟩) (.string ⟨#[]⟩)) (by simp [results, Tryz.results76, go_sem, u0, u1]) rfl ⟨rfl, unhide HB9⟩
theorem tx_large {n : Nat} (h : ¬ n < 10 ^ 600) : 600 < (tx n).size := by
  rcases Nat.lt_or_ge 600 (tx n).size with h' | h'
  · exact h'
  · exfalso
    apply h
    rw [← list_len, tx_list] at h'
    exact (Cub.dec_len_lt n 600 (by omega)).1 h'
theorem refToldQ (d : Nat) (x : Rat) (w : World) (hd1 : 1 ≤ d) (hd : d ≤ 5000) (hx : Bd d x) : Ans 76 #[fx x] w (numT x) (denT x) (errT x) := by
  unfold numT denT errT
  by_cases h : Small x
  · rw [if_pos h, if_pos h, if_pos h]
    unfold sT
    rw [tx_tb _ h.1, tx_tb _ h.2]
    exact refTold _ _ _ w (tx_size (by omega) h.1) (tx_size (by omega) h.2)
  · rw [if_neg h, if_neg h, if_neg h]
    refine refTold_large _ _ _ w ?_ (Nat.le_trans (tx_size hd1 hx.1) hd) (Nat.le_trans (tx_size hd1 hx.2) hd)
    by_cases h1 : x.num.natAbs < 10 ^ 600
    · exact Or.inr (tx_large (fun h2 => h ⟨h1, h2⟩))
    · exact Or.inl (tx_large h1)

end Go.Proofs.YtndhinoomlofgaaGreatDoor

namespace Go.Proofs.YtndhinoomlofgaaGreatDoor
open Go.RowKit

set_option maxRecDepth 100000 in
set_option maxHeartbeats 2000000 in
theorem refAdd_walk (n1 d1 n2 d2 s t : ByteArray) (er : Int) (va vb vr : Value) (w : World)
    (h18a : ∀ W, Calls Tryz.prog 20 #[.agg #[.string n1, .string d1]] W fun r w' => r = .returned (.bool true) ∧ Below W.heap.size W w')
    (h18b : ∀ W, Calls Tryz.prog 20 #[.agg #[.string n2, .string d2]] W fun r w' => r = .returned (.bool true) ∧ Below W.heap.size W w')
    (hra : ∀ W, Calls Tryz.prog 64 #[.agg #[.string n1, .string d1]] W fun r w' => r = .returned va ∧ Below W.heap.size W w')
    (hrb : ∀ W, Calls Tryz.prog 64 #[.agg #[.string n2, .string d2]] W fun r w' => r = .returned vb ∧ Below W.heap.size W w')
    (hop : ∀ W, Calls Tryz.prog 63 #[va, vb] W fun r w' => r = .returned vr ∧ Below W.heap.size W w')
    (ht : ∀ W, Ans 76 #[vr] W s t er) : Ans 31 #[.agg #[.string n1, .string d1], .agg #[.string n2, .string d2]] w s t er := by
  unfold Ans at *
  obtain ⟨V, hV⟩ : ∃ V, V = ((w.alloc (.cells #[.string n1, .string d1] 23)).alloc (.cells #[.string n2, .string d2] 23)).alloc (.cells #[.string ⟨#[]⟩, .string ⟨#[]⟩] 23) := ⟨_, rfl⟩
  have HS : Hid (O3 w V (.string n1) (.string d1) (.string n2) (.string d2)) := by rw [hV]; exact O3.first _ _ _ _ _
  have HV := hide hV
  have HA := hide h18a
  have HB := hide h18b
  have HRA := hide hra
  have HRB := hide hrb
  have HOP := hide hop
  have HT := hide ht
  have HC : Hid (∀ w', Below V.heap.size V w' → (w'.cell? ⟨w.heap.size, 0, none⟩ = some (.string n1) ∧ w'.cell? ⟨w.heap.size, 1, none⟩ = some (.string d1) ∧ w'.cell? ⟨w.heap.size + 1, 0, none⟩ = some (.string n2) ∧ w'.cell? ⟨w.heap.size + 1, 1, none⟩ = some (.string d2)) ∧ (w'.cell? ⟨w.heap.size + 1 + 1, 0, none⟩ = some (.string ⟨#[]⟩) ∧ w'.cell? ⟨w.heap.size + 1 + 1, 1, none⟩ = some (.string ⟨#[]⟩) ∧ w'.frozen? ⟨w.heap.size + 1 + 1, 0, none⟩ = false ∧ w'.frozen? ⟨w.heap.size + 1 + 1, 1, none⟩ = false)) := fun U hb => by
    have s := (unhide HS).later hb
    exact ⟨⟨s.a.c0, s.a.c1, s.b.c0, s.b.c1⟩, ⟨s.r.c0, s.r.c1, s.r.f0, s.r.f1⟩⟩
  clear h18a h18b hra hrb hop ht
  go_enter Tryz.func31, Tryz.ntmps31
  go_upto_region 1 with fail
  rw [← unhide HV]
  clear hV HV
  obtain ⟨⟨t0, t1, t2, t3⟩, _⟩ := unhide HC V (Below.refl _ _)
  go_upto_region 3 with (first
    | (go_at_call_of 20 n1; go_must (refine (unhide HA _).mono ?_; rintro e wa ⟨rfl, hba⟩; have HCA := hide hba; clear hba t0 t1 t2 t3; obtain ⟨⟨t0, t1, t2, t3⟩, _⟩ := unhide HC wa (unhide HCA)))
    | (go_at_call_of 20 n2; go_must (refine (unhide HB _).mono ?_; rintro e wb ⟨rfl, hbb⟩; have HCB := hide ((unhide HCA).trans (hbb.mono (unhide HCA).size)); clear hbb t0 t1 t2 t3; obtain ⟨⟨t0, t1, t2, t3⟩, _⟩ := unhide HC wb (unhide HCB))))
  have HD : Hid (∀ w', Below wb.heap.size wb w' → Below V.heap.size V w') := fun U hb => (unhide HCB).trans (hb.mono (unhide HCB).size)
  clear HCA HA HB
  go_region_held3 (fun w' => w'.cell? ⟨w.heap.size, 0, none⟩ = some (.string n1) ∧ w'.cell? ⟨w.heap.size, 1, none⟩ = some (.string d1) ∧ w'.cell? ⟨w.heap.size + 1, 0, none⟩ = some (.string n2) ∧ w'.cell? ⟨w.heap.size + 1, 1, none⟩ = some (.string d2)) (first | assumption | (refine ⟨?_, ?_, ?_, ?_⟩ <;> first | assumption | (simp [go_sem, *]; done) | (rw [World.cell?_setCell_other _ _ _ _ (by simp), World.cell?_setCell_other _ _ _ _ (by simp)]; assumption)) | (simp [go_sem, *]; done)) ((first
    | (go_at_call_of 64 n1; go_must (refine (unhide HRA _).mono ?_; rintro e wc ⟨rfl, hbc⟩; have HCC := hide (((Below.refl wb.heap.size wb).drew).trans hbc); clear hbc t0 t1 t2 t3; obtain ⟨⟨t0, t1, t2, t3⟩, _⟩ := unhide HC wc (unhide HD wc (unhide HCC))))
    | (go_at_call_of 64 n2; go_must (refine (unhide HRB _).mono ?_; rintro e wd ⟨rfl, hbd⟩; have HCD := hide ((unhide HCC).trans (hbd.mono (unhide HCC).size)); clear hbd t0 t1 t2 t3; obtain ⟨⟨t0, t1, t2, t3⟩, _⟩ := unhide HC wd (unhide HD wd (unhide HCD))))
    | (go_at_call 63; go_must (refine (unhide HOP _).mono ?_; rintro e wf ⟨rfl, hbf⟩; have HCF := hide ((unhide HCD).trans (hbf.mono (unhide HCD).size)); clear hbf t0 t1 t2 t3; obtain ⟨⟨t0, t1, t2, t3⟩, _⟩ := unhide HC wf (unhide HD wf (unhide HCF))))
    | (go_at_call 76; go_must (refine (unhide HT _).mono ?_; rintro e wg ⟨rfl, hbg⟩; have HCG := hide ((unhide HCF).trans (hbg.mono (unhide HCF).size)); clear hbg t0 t1 t2 t3; obtain ⟨⟨t0, t1, t2, t3⟩, ⟨r0, r1, rf0, rf1⟩⟩ := unhide HC wg (unhide HD wg (unhide HCG))))))
  have HS1 := hide ((unhide HS).later (unhide HD wg (unhide HCG)))
  clear r0 r1 rf0 rf1 t0 t1 t2 t3
  have hS := (unhide HS1).r.store (.string s) (.string t)
  have hb : Below w.heap.size w (store2 wg (w.heap.size + 1 + 1) (.string s) (.string t)) := below_store2 (unhide HS1).below (by omega) _ _
  obtain ⟨V9, hV9⟩ : ∃ V9, V9 = store2 wg (w.heap.size + 1 + 1) (.string s) (.string t) := ⟨_, rfl⟩
  have hV9' : V9 = (wg.setCell ⟨w.heap.size + 1 + 1, 0, none⟩ (.string s)).setCell ⟨w.heap.size + 1 + 1, 1, none⟩ (.string t) := hV9
  have u0 := hS.c0; have u1 := hS.c1
  rw [← hV9] at u0 u1 hb
  rw [← hV9']
  have HB9 := hide hb
  clear hV9 hV9' hS hb
  go_wp2_with fail
  exact bodyPost_ret (v := .tuple #[.agg #[.string s, .string t], .int .i64 er]) (by simp [results, Tryz.results31, go_sem, u0, u1]) rfl ⟨rfl, unhide HB9⟩

end Go.Proofs.YtndhinoomlofgaaGreatDoor

namespace Go.Proofs.YtndhinoomlofgaaGreatDoor
open Go.RowKit

theorem bd_val (b : Bool) {n d k : Nat} (hd : 0 < d) (hn : n < 10 ^ k) (hdk : d < 10 ^ k) : Bd k (Cub.valQ b n d) := by
  obtain ⟨h1, h2⟩ := Cub.ratio_low (b := b) (n := n) hd
  obtain ⟨_, e2, e3⟩ := Cub.low_is h1
  rw [h2] at e2 e3
  exact ⟨by rw [← e2]; exact Nat.lt_of_le_of_lt (Nat.div_le_self _ _) hn, by rw [← e3]; exact Nat.lt_of_le_of_lt (Nat.div_le_self _ _) hdk⟩
theorem bd_add {d : Nat} {x y : Rat} (hx : Bd d x) (hy : Bd d y) : Bd (d + d + 1) (x + y) := by
  have px := x.den_pos
  have py := y.den_pos
  have lx := Cub.low_of x
  have ly := Cub.low_of y
  have bX := pow_two d _ _ hx.1 hy.2
  have bY := pow_two d _ _ hy.1 hx.2
  have e := Cub.refAdd_val lx.1 ly.1 (bb := (Cub.addSg (decide (x < 0)) (x.num.natAbs * y.den) (decide (y < 0)) (y.num.natAbs * x.den)).1) (m := (Cub.addSg (decide (x < 0)) (x.num.natAbs * y.den) (decide (y < 0)) (y.num.natAbs * x.den)).2) rfl
  rw [lx.2, ly.2] at e
  rw [← e]
  refine bd_val _ (Nat.mul_pos px py) ?_ (pow_up (pow_two d _ _ hx.2 hy.2) (by omega))
  have hs := pow_sum (d + d) _ _ bX bY
  refine Nat.lt_of_le_of_lt ?_ hs
  unfold Cub.addSg
  split
  · exact Nat.le_refl _
  · split
    · show _ - _ ≤ _
      omega
    · show _ - _ ≤ _
      omega
theorem IsR.bd {num den : ByteArray} {x : Rat} (h : IsR num den x) : Bd 600 x := h.1
theorem ref18_yes {num den : ByteArray} {x : Rat} (h : IsR num den x) (W : World) : Calls Tryz.prog 20 #[.agg #[.string num, .string den]] W fun r w' => r = .returned (.bool true) ∧ Below W.heap.size W w' := by
  have hz := h.size
  obtain ⟨ok, h1, h2⟩ := refR_any num den W (by unfold maxLen; omega) (by unfold maxLen; omega)
  rw [h1.2 ((right_isR num den).2 ⟨x, h⟩)] at h2
  exact h2
theorem refAdd_ok (n1 d1 n2 d2 : ByteArray) (x y : Rat) (w : World) (h1 : IsR n1 d1 x) (h2 : IsR n2 d2 y) : Ans 31 #[.agg #[.string n1, .string d1], .agg #[.string n2, .string d2]] w (numT (x + y)) (denT (x + y)) (errT (x + y)) :=
  refAdd_walk n1 d1 n2 d2 _ _ _ _ _ _ w (ref18_yes h1) (ref18_yes h2) (fun W => refRead n1 d1 x W h1) (fun W => refRead n2 d2 y W h2) (fun W => refFPlus 600 x y W (by omega) (by omega) h1.bd h2.bd) (fun W => refToldQ (600 + 600 + 1) (x + y) W (by omega) (by omega) (bd_add h1.bd h2.bd))
end Go.Proofs.YtndhinoomlofgaaGreatDoor

namespace Go.Proofs.YtndhinoomlofgaaGreatDoor
open Go.RowKit
/-- Both arguments and two numbers in their boxes. -/
structure R4 (w W : World) (g h : Nat) (a1 a2 b1 b2 x1 x2 y1 y2 : Value) : Prop where
  a : T2 W w.heap.size a1 a2
  b : T2 W (w.heap.size + 1) b1 b2
  x : T2 W g x1 x2
  y : T2 W h y1 y2
  below : Below w.heap.size w W
  gx : w.heap.size + 1 < g
  hy : g < h
section
variable {w W V : World} {g h : Nat} {a1 a2 b1 b2 x1 x2 y1 y2 : Value}
theorem R4.later (s : R4 w W g h a1 a2 b1 b2 x1 x2 y1 y2) (hb : Below W.heap.size W V) : R4 w V g h a1 a2 b1 b2 x1 x2 y1 y2 :=
  ⟨s.a.later hb, s.b.later hb, s.x.later hb, s.y.later hb, s.below.trans (hb.mono s.below.size), s.gx, s.hy⟩
end
theorem T2.new (w : World) (a b : Value) : T2 (w.alloc (.cells #[a, b] 23)) w.heap.size a b := ⟨by simp [go_sem], by simp [go_sem], by simp [go_sem], by simp [go_sem]⟩

end Go.Proofs.YtndhinoomlofgaaGreatDoor

namespace Go.Proofs.YtndhinoomlofgaaGreatDoor
open Go.RowKit

set_option maxRecDepth 100000 in
set_option maxHeartbeats 4000000 in
theorem refChain_walk (num den : ByteArray) (b : Bool) (n d F R : Nat) (ts : List Nat) (w : World) (hF : F = floorN b n d) (hR : R = floorR b n d) (hd0 : 0 < d) (bn : n < 10 ^ 600) (bd : d < 10 ^ 600)
    (h18 : ∀ W, Calls Tryz.prog 20 #[.agg #[.string num, .string den]] W fun r w' => r = .returned (.bool true) ∧ Below W.heap.size W w')
    (h64 : ∀ W, Calls Tryz.prog 64 #[.agg #[.string num, .string den]] W fun r w' => r = .returned (.agg #[.bool b, .string (tx n), .string (tx d)]) ∧ Below W.heap.size W w')
    (hts : Cub.EU d R ts) :
    Calls Tryz.prog 58 #[.agg #[.string num, .string den]] w fun e w' => ∃ v, e = .returned (.tuple #[v, .int .i64 0]) ∧ RowS w' v (chT b F ts) ∧ Below w.heap.size w w' := by
  obtain ⟨V, hV⟩ : ∃ V, V = w.alloc (.cells #[.string num, .string den] 23) := ⟨_, rfl⟩
  have HS0 : Hid (T2 V w.heap.size (.string num) (.string den) ∧ Below w.heap.size w V) := by rw [hV]; exact ⟨⟨by simp [go_sem], by simp [go_sem], by simp [go_sem], by simp [go_sem]⟩, alT_below _ _⟩
  have HV := hide hV
  obtain ⟨E, hE⟩ : ∃ E : Nat, E = 600 := ⟨_, rfl⟩
  rw [← hE] at bn bd
  have HB := hide (And.intro bn bd)
  have HDV : Hid (∀ W m n, m < 10 ^ E → n < 10 ^ E → 0 < n → Calls Tryz.prog 121 #[.string (tx m), .string (tx n)] W fun e w' => e = .returned (.tuple #[.string (tx (m / n)), .string (tx (m % n))]) ∧ Below W.heap.size W w') := fun W m n h1 h2 h3 => by
    refine refDivideM E m n W ?_ ?_ h1 h2 h3 <;> omega
  have HPL : Hid (∀ W m n, m < 10 ^ E → n < 10 ^ E → Calls Tryz.prog 122 #[.string (tx m), .string (tx n)] W fun e w' => e = .returned (.string (tx (m + n))) ∧ Below W.heap.size W w') := fun W m n h1 h2 => by
    refine refPlusM E m n W ?_ ?_ h1 h2 <;> omega
  have HMI : Hid (∀ W m n, m < 10 ^ E → n ≤ m → Calls Tryz.prog 123 #[.string (tx m), .string (tx n)] W fun e w' => e = .returned (.string (tx (m - n))) ∧ Below W.heap.size W w') := fun W m n h1 h2 => by
    refine refMinusM E m n W ?_ ?_ h1 (Nat.lt_of_le_of_lt h2 h1) h2 <;> omega
  have HSZ : Hid (∀ m, m < 10 ^ E → (tx m).size ≤ 1000000) := fun m hm => by
    have := (Cub.dec_len_lt m E (by omega)).2 hm
    rw [← list_len]; show (Lib.decDigits m).length ≤ 1000000; omega
  have HSZ1 : Hid (∀ m, m ≤ n → (tx (m + 1)).size ≤ 1000000) := fun m hm => by
    have := (Cub.dec_len_lt (m + 1) (E + 1) (by omega)).2 (by rw [Nat.pow_succ]; omega)
    rw [← list_len]; show (Lib.decDigits (m + 1)).length ≤ 1000000; omega
  have HRD : Hid (R < d) := by rw [hR]; exact floorR_lt _ _ _ hd0
  have HI0 : Hid (Cub.EI d R d R []) := Cub.EI.first (unhide HRD)
  have HFR := hide (And.intro hF hR)
  clear hF hR
  have H18 := hide h18; have H64 := hide h64
  have HTS := hide hts
  have HD0 := hide hd0
  have HE := hide hE
  clear h18 h64 hts hd0 bn bd hE
  go_enter Tryz.func58, Tryz.ntmps58
  go_upto_region 1 with fail
  rw [← unhide HV]
  clear hV HV
  have t0 := (unhide HS0).1.c0; have t1 := (unhide HS0).1.c1
  go_upto_region 3 with (go_at_call 20; go_must (refine (unhide H18 _).mono ?_; rintro e w1 ⟨rfl, hb1⟩; have HS1 : Hid (T2 w1 w.heap.size (.string num) (.string den) ∧ Below w.heap.size w w1) := ⟨(unhide HS0).1.later hb1, (unhide HS0).2.trans (hb1.mono (unhide HS0).2.size)⟩; clear hb1 t0 t1; have t0 := (unhide HS1).1.c0; have t1 := (unhide HS1).1.c1))
  go_upto_region 4 with (go_at_call 64; go_must (refine (unhide H64 _).mono ?_; rintro e w2 ⟨rfl, hb1⟩; have HS2 : Hid (Below w.heap.size w w2) := (unhide HS1).2.trans (hb1.mono (unhide HS1).2.size); clear hb1 t0 t1))
  obtain ⟨V3, hV3⟩ : ∃ V3, V3 = w2.alloc (.cells #[.bool b, .string (tx n), .string (tx d)] 61) := ⟨_, rfl⟩
  have HS3 : Hid (FBox V3 w2.heap.size (.bool b) (.string (tx n)) (.string (tx d)) ∧ Below w.heap.size w V3) := by
    rw [hV3]; exact ⟨⟨by simp [go_sem], by simp [go_sem], by simp [go_sem], by simp [go_sem], by simp [go_sem], by simp [go_sem]⟩, (unhide HS2).trans ((alT_below _ _).mono (unhide HS2).size)⟩
  rw [← hV3]
  clear hV3 HS0 HS1 HS2
  generalize w2.heap.size = gf at *
  have t1 := (unhide HS3).1.c1; have t2 := (unhide HS3).1.c2
  go_quiet (fail)
  have HS4 : Hid (FBox (V3.drewN nq) gf (.bool b) (.string (tx n)) (.string (tx d)) ∧ Below w.heap.size w (V3.drewN nq)) := ⟨(unhide HS3).1.later (below_drewN (Below.refl _ _) _), below_drewN (unhide HS3).2 _⟩
  clear t1 t2 HS3
  generalize V3.drewN nq = V4 at *
  go_upto_region 6 with (go_at_call 121; go_must (refine (unhide HDV _ _ _ (unhide HB).1 (unhide HB).2 (unhide HD0)).mono ?_; rintro e w5 ⟨rfl, hb5⟩; have HS5 : Hid (FBox w5 gf (.bool b) (.string (tx n)) (.string (tx d)) ∧ Below w.heap.size w w5) := ⟨(unhide HS4).1.later hb5, (unhide HS4).2.trans (hb5.mono (unhide HS4).2.size)⟩; clear hb5))
  clear HS4
  have t0 := (unhide HS5).1.c0
  have HW5 : Hid (Below w.heap.size w w5) := (unhide HS5).2
  cases b with
  | false =>
    obtain ⟨hF, hR⟩ := unhide HFR
    have hF' : F = n / d := by rw [hF]; unfold floorN; rw [if_neg (by simp)]
    have hR' : R = n % d := by rw [hR]; unfold floorR; rw [if_neg (by simp)]
    rw [← hF', ← hR']
    clear HFR hF hR hF' hR' HS5 HPL HMI H18 H64
    go_upto_region 12 with fail
    obtain ⟨U, hU⟩ : ∃ U, U = w5.alloc (.cells #[.string (sx false F)] 9) := ⟨_, rfl⟩
    have HO0 : Hid (OwnT U w.heap.size (.slice (some ⟨w5.heap.size, 0, none⟩) 1 1) (strsV (chT false F [])) ∧ Below w.heap.size w U) := by
      rw [hU]; exact ⟨OwnT.one _ _ _ (unhide HW5).size, (unhide HW5).trans ((alT_below _ _).mono (unhide HW5).size)⟩
    have hsx : (tx F : ByteArray) = sx false F := rfl
    rw [hsx, ← hU]
    clear hU hsx
    go_loopg [5, 6, 7, 8, 9] R (fun z s5 s6 s7 s8 s9 wr => ∃ (dd rr : Nat) (pre : List Nat) (v : Value) (q nm : ByteArray), s5 = .string nm ∧ s6 = .string (tx dd) ∧ s7 = .string q ∧ s8 = .string (tx rr) ∧ v = s9 ∧ Hid (z = rr) ∧ Hid (Cub.EI d R dd rr pre) ∧ Hid (OwnT wr w.heap.size v (strsV (chT false F pre)) ∧ Below w.heap.size w wr))
    case atStart => exact ⟨d, R, [], _, _, _, rfl, rfl, rfl, rfl, rfl, rfl, HI0, HO0⟩
    case round =>
      clear HO0 HI0
      obtain ⟨dd, rr, pre, v, q, nm, rfl, rfl, rfl, rfl, rfl, HZ, HI, HO⟩ := hrel
      by_cases hr0 : rr = 0
      · have e48 : ((tx rr).toList == [48]) = true := by rw [tx_eq48, hr0]; rfl
        have HEU : Hid (Cub.EU d R pre) := by have h := unhide HI; rw [hr0] at h; exact h.last
        clear hr0
        go_wp2_with fail
        refine bodyPost_ret (v := .tuple #[v, .int .i64 0]) (by simp [results, Tryz.results58, go_sem]) rfl ⟨v, rfl, ?_, (unhide HO).2⟩
        rw [(unhide HTS).det (unhide HEU)]
        exact (unhide HO).1.rowS
      · have e48 : ((tx rr).toList == [48]) = false := by rw [tx_eq48]; simpa using hr0
        have HDD : Hid (dd < 10 ^ E ∧ rr < 10 ^ E ∧ 0 < rr) := by
          have h1 := (unhide HI).le; have h2 := (unhide HI).lt; have h3 := (unhide HB).2
          exact ⟨Nat.lt_of_le_of_lt h1 h3, Nat.lt_trans h2 (Nat.lt_of_le_of_lt h1 h3), by omega⟩
        have HI2 := hide ((unhide HI).step hr0)
        have HLN : Hid ((strsV (chT false F pre)).length ≤ 1000000) := by
          have h1 := (unhide HI).len (unhide HB).2 (unhide HRD); have h2 := unhide HE
          show _ ≤ _
          rw [strsV_length, chT_len]; omega
        go_wp2_with (first
          | (go_at_call 121; go_must (refine (unhide HDV _ _ _ (unhide HDD).1 (unhide HDD).2.1 (unhide HDD).2.2).mono ?_; rintro e wt ⟨rfl, hbt⟩; have HO2 : Hid (OwnT wt w.heap.size v (strsV (chT false F pre)) ∧ Below w.heap.size w wt) := ⟨(unhide HO).1.later hbt, (unhide HO).2.trans (hbt.mono (unhide HO).2.size)⟩; clear hbt e48))
          | (at_builtin; go_must (refine wpList_appendT rfl _ _ rfl w.heap.size _ (strsV (chT false F pre)) rfl ((unhide HO2).1.later (alT_below _ _)) ⟨wt.heap.size, 0, none⟩ 1 (.string (tx (dd / rr))) rfl (alT_one _ _) rfl (str_no _) (unhide HLN) (by have := (unhide HO2).2.size; simp; omega) rfl ?_; intro v2 wa hap; have HAP := hide hap; clear hap)))
        have HO3 : Hid (OwnT wa w.heap.size v2 (strsV (chT false F (pre ++ [dd / rr]))) ∧ Below w.heap.size w wa) := by
          have ho := (unhide HO2).1.later (alT_below wt (.cells #[.string (tx (dd / rr))] 9))
          have hb := (unhide HO2).2.trans ((alT_below wt (.cells #[.string (tx (dd / rr))] 9)).mono (unhide HO2).2.size)
          refine ⟨?_, (unhide HAP).below ho hb (Nat.le_refl _) hb.size⟩
          rw [chT_snoc, ← strsV_snoc]; exact (unhide HAP).own
        clear HAP HO HO2
        go_roundg (dd % rr)
        case measure => have h1 := unhide HZ; have h2 := Nat.mod_lt dd (unhide HDD).2.2; omega
        case rel => exact ⟨rr, dd % rr, pre ++ [dd / rr], v2, _, _, rfl, rfl, rfl, rfl, rfl, rfl, HI2, HO3⟩
  | true =>
    by_cases hz : n % d = 0
    · obtain ⟨hF, hR⟩ := unhide HFR
      have hF' : F = n / d := by rw [hF]; unfold floorN; rw [if_neg (by simp [hz])]
      have hR' : R = n % d := by rw [hR]; unfold floorR; rw [if_neg (by simp [hz])]
      have e48 : ((tx R).toList == [48]) = true := by rw [tx_eq48, hR', hz]; rfl
      have hsz : (tx F).size ≤ 1000000 := by rw [hF']; exact unhide HSZ _ (Nat.lt_of_le_of_lt (Nat.div_le_self _ _) (unhide HB).1)
      have h45 : (⟨#[45]⟩ : ByteArray).size = 1 := rfl
      rw [← hF', ← hR']
      clear HFR hF hR hF' hR' HS5 HPL HMI H18 H64 hz
      go_upto_region 11 with fail
      clear e48 hsz h45 t0
      go_upto_region 12 with fail
      obtain ⟨U, hU⟩ : ∃ U, U = w5.alloc (.cells #[.string (sx true F)] 9) := ⟨_, rfl⟩
      have HO0 : Hid (OwnT U w.heap.size (.slice (some ⟨w5.heap.size, 0, none⟩) 1 1) (strsV (chT true F [])) ∧ Below w.heap.size w U) := by
        rw [hU]; exact ⟨OwnT.one _ _ _ (unhide HW5).size, (unhide HW5).trans ((alT_below _ _).mono (unhide HW5).size)⟩
      have hsx : (⟨#[45]⟩ ++ tx F : ByteArray) = sx true F := rfl
      rw [hsx, ← hU]
      clear hU hsx
      go_loopg [5, 6, 7, 8, 9] R (fun z s5 s6 s7 s8 s9 wr => ∃ (dd rr : Nat) (pre : List Nat) (v : Value) (q nm : ByteArray), s5 = .string nm ∧ s6 = .string (tx dd) ∧ s7 = .string q ∧ s8 = .string (tx rr) ∧ v = s9 ∧ Hid (z = rr) ∧ Hid (Cub.EI d R dd rr pre) ∧ Hid (OwnT wr w.heap.size v (strsV (chT true F pre)) ∧ Below w.heap.size w wr))
      case atStart => exact ⟨d, R, [], _, _, _, rfl, rfl, rfl, rfl, rfl, rfl, HI0, HO0⟩
      case round =>
        clear HO0 HI0
        obtain ⟨dd, rr, pre, v, q, nm, rfl, rfl, rfl, rfl, rfl, HZ, HI, HO⟩ := hrel
        by_cases hr0 : rr = 0
        · have e48 : ((tx rr).toList == [48]) = true := by rw [tx_eq48, hr0]; rfl
          have HEU : Hid (Cub.EU d R pre) := by have h := unhide HI; rw [hr0] at h; exact h.last
          clear hr0
          go_wp2_with fail
          refine bodyPost_ret (v := .tuple #[v, .int .i64 0]) (by simp [results, Tryz.results58, go_sem]) rfl ⟨v, rfl, ?_, (unhide HO).2⟩
          rw [(unhide HTS).det (unhide HEU)]
          exact (unhide HO).1.rowS
        · have e48 : ((tx rr).toList == [48]) = false := by rw [tx_eq48]; simpa using hr0
          have HDD : Hid (dd < 10 ^ E ∧ rr < 10 ^ E ∧ 0 < rr) := by
            have h1 := (unhide HI).le; have h2 := (unhide HI).lt; have h3 := (unhide HB).2
            exact ⟨Nat.lt_of_le_of_lt h1 h3, Nat.lt_trans h2 (Nat.lt_of_le_of_lt h1 h3), by omega⟩
          have HI2 := hide ((unhide HI).step hr0)
          have HLN : Hid ((strsV (chT true F pre)).length ≤ 1000000) := by
            have h1 := (unhide HI).len (unhide HB).2 (unhide HRD); have h2 := unhide HE
            show _ ≤ _
            rw [strsV_length, chT_len]; omega
          go_wp2_with (first
            | (go_at_call 121; go_must (refine (unhide HDV _ _ _ (unhide HDD).1 (unhide HDD).2.1 (unhide HDD).2.2).mono ?_; rintro e wt ⟨rfl, hbt⟩; have HO2 : Hid (OwnT wt w.heap.size v (strsV (chT true F pre)) ∧ Below w.heap.size w wt) := ⟨(unhide HO).1.later hbt, (unhide HO).2.trans (hbt.mono (unhide HO).2.size)⟩; clear hbt e48))
            | (at_builtin; go_must (refine wpList_appendT rfl _ _ rfl w.heap.size _ (strsV (chT true F pre)) rfl ((unhide HO2).1.later (alT_below _ _)) ⟨wt.heap.size, 0, none⟩ 1 (.string (tx (dd / rr))) rfl (alT_one _ _) rfl (str_no _) (unhide HLN) (by have := (unhide HO2).2.size; simp; omega) rfl ?_; intro v2 wa hap; have HAP := hide hap; clear hap)))
          have HO3 : Hid (OwnT wa w.heap.size v2 (strsV (chT true F (pre ++ [dd / rr]))) ∧ Below w.heap.size w wa) := by
            have ho := (unhide HO2).1.later (alT_below wt (.cells #[.string (tx (dd / rr))] 9))
            have hb := (unhide HO2).2.trans ((alT_below wt (.cells #[.string (tx (dd / rr))] 9)).mono (unhide HO2).2.size)
            refine ⟨?_, (unhide HAP).below ho hb (Nat.le_refl _) hb.size⟩
            rw [chT_snoc, ← strsV_snoc]; exact (unhide HAP).own
          clear HAP HO HO2
          go_roundg (dd % rr)
          case measure => have h1 := unhide HZ; have h2 := Nat.mod_lt dd (unhide HDD).2.2; omega
          case rel => exact ⟨rr, dd % rr, pre ++ [dd / rr], v2, _, _, rfl, rfl, rfl, rfl, rfl, rfl, HI2, HO3⟩
    · obtain ⟨hF, hR⟩ := unhide HFR
      have hF' : F = n / d + 1 := by rw [hF]; unfold floorN; rw [if_pos ⟨rfl, hz⟩]
      have hR' : R = d - n % d := by rw [hR]; unfold floorR; rw [if_pos ⟨rfl, hz⟩]
      have e48 : ((tx (n % d)).toList == [48]) = false := by rw [tx_eq48]; simpa using hz
      have hsz : (tx F).size ≤ 1000000 := by rw [hF']; exact unhide HSZ1 _ (Nat.div_le_self _ _)
      have h45 : (⟨#[45]⟩ : ByteArray).size = 1 := rfl
      have HPQ : Hid (∀ W, Calls Tryz.prog 122 #[.string (tx (n / d)), .string ⟨#[49]⟩] W fun e w' => e = .returned (.string (tx F)) ∧ Below W.heap.size W w') := fun W => by
        rw [hF', show (⟨#[49]⟩ : ByteArray) = tx 1 from by decide +kernel]
        exact unhide HPL W _ _ (Nat.lt_of_le_of_lt (Nat.div_le_self _ _) (unhide HB).1) (Nat.one_lt_pow (by have := unhide HE; omega) (by decide))
      have HMQ : Hid (∀ W, Calls Tryz.prog 123 #[.string (tx d), .string (tx (n % d))] W fun e w' => e = .returned (.string (tx R)) ∧ Below W.heap.size W w') := fun W => by
        rw [hR']; exact unhide HMI W _ _ (unhide HB).2 (Nat.le_of_lt (Nat.mod_lt _ (unhide HD0)))
      clear HFR hF hR hF' hR' HS5 HPL HMI H18 H64 hz
      generalize n / d = Q at *
      generalize n % d = S at *
      go_upto_region 11 with (first
        | (go_at_call 122; go_must (refine (unhide HPQ _).mono ?_; rintro e w6 ⟨rfl, hb6⟩; have HW6 := hide ((unhide HW5).trans (hb6.mono (unhide HW5).size)); clear hb6))
        | (go_at_call 123; go_must (refine (unhide HMQ _).mono ?_; rintro e w7 ⟨rfl, hb7⟩; have HW7 := hide ((unhide HW6).trans (hb7.mono (unhide HW6).size)); clear hb7)))
      clear e48 hsz h45 t0 HPQ HMQ
      go_upto_region 12 with fail
      obtain ⟨U, hU⟩ : ∃ U, U = w7.alloc (.cells #[.string (sx true F)] 9) := ⟨_, rfl⟩
      have HO0 : Hid (OwnT U w.heap.size (.slice (some ⟨w7.heap.size, 0, none⟩) 1 1) (strsV (chT true F [])) ∧ Below w.heap.size w U) := by
        rw [hU]; exact ⟨OwnT.one _ _ _ (unhide HW7).size, (unhide HW7).trans ((alT_below _ _).mono (unhide HW7).size)⟩
      have hsx : (⟨#[45]⟩ ++ tx F : ByteArray) = sx true F := rfl
      rw [hsx, ← hU]
      clear hU hsx
      go_loopg [5, 6, 7, 8, 9] R (fun z s5 s6 s7 s8 s9 wr => ∃ (dd rr : Nat) (pre : List Nat) (v : Value) (q nm : ByteArray), s5 = .string nm ∧ s6 = .string (tx dd) ∧ s7 = .string q ∧ s8 = .string (tx rr) ∧ v = s9 ∧ Hid (z = rr) ∧ Hid (Cub.EI d R dd rr pre) ∧ Hid (OwnT wr w.heap.size v (strsV (chT true F pre)) ∧ Below w.heap.size w wr))
      case atStart => exact ⟨d, R, [], _, _, _, rfl, rfl, rfl, rfl, rfl, rfl, HI0, HO0⟩
      case round =>
        clear HO0 HI0
        obtain ⟨dd, rr, pre, v, q, nm, rfl, rfl, rfl, rfl, rfl, HZ, HI, HO⟩ := hrel
        by_cases hr0 : rr = 0
        · have e48 : ((tx rr).toList == [48]) = true := by rw [tx_eq48, hr0]; rfl
          have HEU : Hid (Cub.EU d R pre) := by have h := unhide HI; rw [hr0] at h; exact h.last
          clear hr0
          go_wp2_with fail
          refine bodyPost_ret (v := .tuple #[v, .int .i64 0]) (by simp [results, Tryz.results58, go_sem]) rfl ⟨v, rfl, ?_, (unhide HO).2⟩
          rw [(unhide HTS).det (unhide HEU)]
          exact (unhide HO).1.rowS
        · have e48 : ((tx rr).toList == [48]) = false := by rw [tx_eq48]; simpa using hr0
          have HDD : Hid (dd < 10 ^ E ∧ rr < 10 ^ E ∧ 0 < rr) := by
            have h1 := (unhide HI).le; have h2 := (unhide HI).lt; have h3 := (unhide HB).2
            exact ⟨Nat.lt_of_le_of_lt h1 h3, Nat.lt_trans h2 (Nat.lt_of_le_of_lt h1 h3), by omega⟩
          have HI2 := hide ((unhide HI).step hr0)
          have HLN : Hid ((strsV (chT true F pre)).length ≤ 1000000) := by
            have h1 := (unhide HI).len (unhide HB).2 (unhide HRD); have h2 := unhide HE
            show _ ≤ _
            rw [strsV_length, chT_len]; omega
          go_wp2_with (first
            | (go_at_call 121; go_must (refine (unhide HDV _ _ _ (unhide HDD).1 (unhide HDD).2.1 (unhide HDD).2.2).mono ?_; rintro e wt ⟨rfl, hbt⟩; have HO2 : Hid (OwnT wt w.heap.size v (strsV (chT true F pre)) ∧ Below w.heap.size w wt) := ⟨(unhide HO).1.later hbt, (unhide HO).2.trans (hbt.mono (unhide HO).2.size)⟩; clear hbt e48))
            | (at_builtin; go_must (refine wpList_appendT rfl _ _ rfl w.heap.size _ (strsV (chT true F pre)) rfl ((unhide HO2).1.later (alT_below _ _)) ⟨wt.heap.size, 0, none⟩ 1 (.string (tx (dd / rr))) rfl (alT_one _ _) rfl (str_no _) (unhide HLN) (by have := (unhide HO2).2.size; simp; omega) rfl ?_; intro v2 wa hap; have HAP := hide hap; clear hap)))
          have HO3 : Hid (OwnT wa w.heap.size v2 (strsV (chT true F (pre ++ [dd / rr]))) ∧ Below w.heap.size w wa) := by
            have ho := (unhide HO2).1.later (alT_below wt (.cells #[.string (tx (dd / rr))] 9))
            have hb := (unhide HO2).2.trans ((alT_below wt (.cells #[.string (tx (dd / rr))] 9)).mono (unhide HO2).2.size)
            refine ⟨?_, (unhide HAP).below ho hb (Nat.le_refl _) hb.size⟩
            rw [chT_snoc, ← strsV_snoc]; exact (unhide HAP).own
          clear HAP HO HO2
          go_roundg (dd % rr)
          case measure => have h1 := unhide HZ; have h2 := Nat.mod_lt dd (unhide HDD).2.2; omega
          case rel => exact ⟨rr, dd % rr, pre ++ [dd / rr], v2, _, _, rfl, rfl, rfl, rfl, rfl, rfl, HI2, HO3⟩

end Go.Proofs.YtndhinoomlofgaaGreatDoor

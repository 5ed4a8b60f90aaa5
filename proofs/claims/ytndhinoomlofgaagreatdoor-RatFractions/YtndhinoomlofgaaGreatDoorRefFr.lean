/- The document's fractions: Times (65). -/
import Derived.Test.YtndhinoomlofgaaGreatDoorChainT
import Derived.Test.YtndhinoomlofgaaGreatDoorRowB
import Derived.Test.YtndhinoomlofgaaGreatDoorTx
import Derived.Test.YtndhinoomlofgaaGreatDoorLimb5
import Derived.Test.YtndhinoomlofgaaGreatDoorLimb4
import Derived.Test.YtndhinoomlofgaaGreatDoorReads
import Derived.Test.YtndhinoomlofgaaGreatDoorUnfold
import Derived.Deep.LoopGhost
import Derived.Test.YtndhinoomlofgaaGreatDoorCmpMath
namespace Go.Proofs.YtndhinoomlofgaaGreatDoor
open Go.RowKit

/-- The boxes of what is left and of what it is divided by. -/
structure CS (w W : World) (gr gd : Nat) (ur ud : Value) (r d : Nat) : Prop where
  br : Box W gr ur
  bd : Box W gd ud
  ir : IsBig W (.agg #[ur]) r
  id' : IsBig W (.agg #[ud]) d
  below : Below w.heap.size w W
theorem CS.later {w W V : World} {gr gd : Nat} {ur ud : Value} {r d : Nat} (s : CS w W gr gd ur ud r d) (hb : Below W.heap.size W V) : CS w V gr gd ur ud r d :=
  ⟨s.br.later hb, s.bd.later hb, s.ir.later hb, s.id'.later hb, s.below.trans (hb.mono s.below.size)⟩
theorem CS.app {w W V : World} {gr gd base : Nat} {ur ud : Value} {r d : Nat} {v v' : Value} {xs : List Value} {x : Value} (s : CS w W gr gd ur ud r d) (ho : OwnT W base v xs) (h : AppT W V base v v' xs x) (hr : gr < base) (hd : some gd ≠ v.ownBlock) (hb : w.heap.size ≤ base) : CS w V gr gd ur ud r d := by
  have hne : some gr ≠ v.ownBlock := fun e => by have := (ho.lt _ e.symm).1; omega
  exact ⟨⟨(h.box s.br.lt hne 0).1.trans s.br.c, (h.box s.br.lt hne 0).2.trans s.br.f⟩, ⟨(h.box s.bd.lt hd 0).1.trans s.bd.c, (h.box s.bd.lt hd 0).2.trans s.bd.f⟩, h.big _ _ s.ir, h.big _ _ s.id', h.below ho s.below hb s.below.size⟩
theorem OwnT.neBox {w : World} {base g n c : Nat} {a : Option Addr} {v : Value} {l : List ByteArray} (h : OwnT w base v (strsV l)) (hl : 0 < l.length) (hb : Box w g (.slice a n c)) : some g ≠ v.ownBlock := by
  intro e
  obtain ⟨g', cap, rfl, _, _, hc⟩ := h.cells 0 (by rw [strsV_length]; exact hl)
  simp only [Value.ownBlock, Option.some.injEq] at e
  subst e
  rw [hb.c] at hc
  simp [strsV] at hc
theorem OwnT.apart {w : World} {base : Nat} {v : Value} {xs : List Value} (h : OwnT w base v xs) (p : Addr) (u : Value) (hp : some p.block ≠ v.ownBlock) : OwnT (w.setCell p u) base v xs := by
  rcases h with h | ⟨g, cap, cur, h0, h1, h2, r⟩
  · exact Or.inl h
  · refine Or.inr ⟨g, cap, cur, h0, h1, ?_, r⟩
    rw [← h2]
    refine heap_setCell_other _ _ _ _ (fun e => hp ?_)
    rw [h0]
    simp [Value.ownBlock, e]
theorem AppT.boxT {W V : World} {base : Nat} {v v' : Value} {xs : List Value} {x u : Value} {k : Nat} (h : AppT W V base v v' xs x) (s : Box W k u) (hd : some k ≠ v.ownBlock) : Box V k u :=
  ⟨(h.box s.lt hd 0).1.trans s.c, (h.box s.lt hd 0).2.trans s.f⟩

set_option maxRecDepth 100000 in
set_option maxHeartbeats 4000000 in
theorem chain_walk (num den : ByteArray) (b : Bool) (n d F R : Nat) (ts : List Nat) (w : World) (htab : Tab w) (hR : R < d) (bd : d < 10 ^ 600) (bF : F < 1000000000 ^ 68) (sF : (tx F).size ≤ 1000000)
    (hrd : ∀ W, Calls Tryz.prog 78 #[.agg #[.string num, .string den]] W fun r w' => ∃ a1 l1 c1 a2 l2 c2, r = .returned (.tuple #[.agg #[.bool b, .slice a1 l1 c1, .slice a2 l2 c2], .bool true]) ∧ IsBig w' (.agg #[.slice a1 l1 c1]) n ∧ IsBig w' (.agg #[.slice a2 l2 c2]) d ∧ Below W.heap.size W w')
    (hfl : ∀ W a1 l1 c1 a2 l2 c2, IsBig W (.agg #[.slice a1 l1 c1]) n → IsBig W (.agg #[.slice a2 l2 c2]) d → Calls Tryz.prog 113 #[.agg #[.bool b, .slice a1 l1 c1, .slice a2 l2 c2]] W fun e w' => ∃ a l c a' l' c', e = .returned (.tuple #[.agg #[.slice a l c], .agg #[.slice a' l' c']]) ∧ IsBig w' (.agg #[.slice a l c]) F ∧ IsBig w' (.agg #[.slice a' l' c']) R ∧ Below W.heap.size W w')
    (hts : Cub.EU d R ts) :
    Calls Tryz.prog 57 #[.agg #[.string num, .string den]] w fun e w' => ∃ v, e = .returned (.tuple #[v, .int .i64 0]) ∧ RowS w' v (chT b F ts) ∧ Below w.heap.size w w' := by
  obtain ⟨V, hV⟩ : ∃ V, V = w.alloc (.cells #[.string num, .string den] 23) := ⟨_, rfl⟩
  have HS0 : Hid (T2 V w.heap.size (.string num) (.string den) ∧ Below w.heap.size w V) := by rw [hV]; exact ⟨⟨by simp [go_sem], by simp [go_sem], by simp [go_sem], by simp [go_sem]⟩, alT_below _ _⟩
  have HV := hide hV
  obtain ⟨E, hE⟩ : ∃ E : Nat, E = 600 := ⟨_, rfl⟩
  have HP6 : Hid (10 ^ E ≤ 1000000000 ^ 67) := by rw [hE]; exact pow_nine 600 67 (by decide)
  rw [← hE] at bd
  have HI0 : Hid (Cub.EI d R d R []) := Cub.EI.first hR
  have HLE : Hid (∀ dd rr (pre : List Nat), Cub.EI d R dd rr pre → (strsV (chT b F pre)).length ≤ 1000000) := fun dd rr pre h => by
    have := h.len bd hR
    rw [strsV_length, chT_len]; omega
  have HDV : Hid (∀ W x y m n, IsBig W x m → IsBig W y n → m < 10 ^ E → 0 < n → Calls Tryz.prog 120 #[x, y] W fun e w' => ∃ a1 n1 c1 a2 n2 c2, e = .returned (.tuple #[.agg #[.slice a1 n1 c1], .agg #[.slice a2 n2 c2]]) ∧ IsBig w' (.agg #[.slice a1 n1 c1]) (m / n) ∧ IsBig w' (.agg #[.slice a2 n2 c2]) (m % n) ∧ Below W.heap.size W w') := fun W x y m n hx hy hm hn => divAns 67 (by decide) W x y m n hx hy (Nat.lt_of_lt_of_le hm (unhide HP6)) hn
  have HTX : Hid (∀ W x m, IsBig W x m → m < 1000000000 ^ 68 → Below w.heap.size w W → Calls Tryz.prog 92 #[x] W fun e w' => e = .returned (.string (tx m)) ∧ Below W.heap.size W w') := fun W x m hx hm hb => text_any x m 68 W hx (by decide) hm (htab.later hb)
  have HRD := hide hrd; have HFL := hide hfl; have HTS := hide hts
  have HBS := hide (And.intro hR (And.intro bd bF)); have HSF := hide sF
  clear hrd hfl hts htab hR bd bF sF hE
  go_enter Tryz.func57, Tryz.ntmps57
  go_upto_region 1 with fail
  rw [← unhide HV]
  clear hV HV
  have t0 := (unhide HS0).1.c0; have t1 := (unhide HS0).1.c1
  go_upto_region 4 with (go_at_call 78; go_must (refine (unhide HRD _).mono ?_; rintro e w1 ⟨a1, l1, c1, a2, l2, c2, rfl, hn1, hd1, hb1⟩; have HS1 : Hid (IsBig w1 (.agg #[.slice a1 l1 c1]) n ∧ IsBig w1 (.agg #[.slice a2 l2 c2]) d ∧ Below w.heap.size w w1) := ⟨hn1, hd1, (unhide HS0).2.trans (hb1.mono (unhide HS0).2.size)⟩; clear hn1 hd1 hb1 t0 t1))
  obtain ⟨V2, hV2⟩ : ∃ V2, V2 = w1.alloc (.cells #[.bool b, .slice a1 l1 c1, .slice a2 l2 c2] 74) := ⟨_, rfl⟩
  have hb2 : Below w1.heap.size w1 V2 := by rw [hV2]; exact alT_below _ _
  have HS2 : Hid (FBox V2 w1.heap.size (.bool b) (.slice a1 l1 c1) (.slice a2 l2 c2) ∧ IsBig V2 (.agg #[.slice a1 l1 c1]) n ∧ IsBig V2 (.agg #[.slice a2 l2 c2]) d ∧ Below w.heap.size w V2) :=
    ⟨by rw [hV2]; exact ⟨by simp [go_sem], by simp [go_sem], by simp [go_sem], by simp [go_sem], by simp [go_sem], by simp [go_sem]⟩, (unhide HS1).1.later hb2, (unhide HS1).2.1.later hb2, (unhide HS1).2.2.trans (hb2.mono (unhide HS1).2.2.size)⟩
  rw [← hV2]
  clear hV2 hb2 HS0 HS1
  generalize w1.heap.size = gf at *
  have t0 := (unhide HS2).1.c0; have t1 := (unhide HS2).1.c1; have t2 := (unhide HS2).1.c2
  go_upto_region 5 with (go_at_call 113; go_must (refine (unhide HFL _ _ _ _ _ _ _ (unhide HS2).2.1 (unhide HS2).2.2.1).mono ?_; rintro e w3 ⟨az, lz, cz, ar, lr, cr, rfl, hs, hr, hb3⟩; have HS3 : Hid (FBox w3 gf (.bool b) (.slice a1 l1 c1) (.slice a2 l2 c2) ∧ IsBig w3 (.agg #[.slice az lz cz]) F ∧ IsBig w3 (.agg #[.slice ar lr cr]) R ∧ IsBig w3 (.agg #[.slice a2 l2 c2]) d ∧ Below w.heap.size w w3) := ⟨(unhide HS2).1.later hb3, hs, hr, (unhide HS2).2.2.1.later hb3, (unhide HS2).2.2.2.trans (hb3.mono (unhide HS2).2.2.2.size)⟩; clear hs hr hb3 t0 t1 t2))
  obtain ⟨V4, hV4⟩ : ∃ V4, V4 = (w3.alloc (.cells #[.slice az lz cz] 72)).alloc (.cells #[.slice ar lr cr] 72) := ⟨_, rfl⟩
  have hb4 : Below w3.heap.size w3 V4 := by rw [hV4]; exact ((Below.refl _ _).alloc (Nat.le_refl _) _).alloc (by simp) _
  have hz4 : V4.heap.size = w3.heap.size + 1 + 1 := by rw [hV4]; simp
  have HS4 : Hid (FBox V4 gf (.bool b) (.slice a1 l1 c1) (.slice a2 l2 c2) ∧ Box V4 w3.heap.size (.slice az lz cz) ∧ Box V4 (w3.heap.size + 1) (.slice ar lr cr) ∧ IsBig V4 (.agg #[.slice az lz cz]) F ∧ IsBig V4 (.agg #[.slice ar lr cr]) R ∧ IsBig V4 (.agg #[.slice a2 l2 c2]) d ∧ Below w.heap.size w V4) :=
    ⟨(unhide HS3).1.later hb4, by rw [hV4]; exact ⟨by simp [go_sem], by simp [go_sem]⟩, by rw [hV4]; exact ⟨by simp [go_sem], by simp [go_sem]⟩, (unhide HS3).2.1.later hb4, (unhide HS3).2.2.1.later hb4, (unhide HS3).2.2.2.1.later hb4, (unhide HS3).2.2.2.2.trans (hb4.mono (unhide HS3).2.2.2.2.size)⟩
  rw [← hV4]
  obtain ⟨gs, hgs⟩ : ∃ gs, gs = w3.heap.size := ⟨_, rfl⟩
  obtain ⟨gr, hgr⟩ : ∃ gr, gr = w3.heap.size + 1 := ⟨_, rfl⟩
  obtain ⟨B0, hB0⟩ : ∃ B0, B0 = V4.heap.size := ⟨_, rfl⟩
  have HWG : Hid (w.heap.size ≤ gr) := by have h1 := (unhide HS3).2.2.2.2.size; show w.heap.size ≤ gr; omega
  have HG : Hid (gr < B0 ∧ w.heap.size ≤ B0) := ⟨by omega, by rw [hB0]; exact (unhide HS4).2.2.2.2.2.2.size⟩
  rw [← hgr, ← hgs] at HS4 ⊢
  clear hV4 hb4 hz4 hgs hgr HS2 HS3
  have HR0 : Hid (V4.drew.cell? ⟨gf, 0, none⟩ = some (.bool b) ∧ V4.drew.cell? ⟨gs, 0, none⟩ = some (.slice az lz cz)) := ⟨((unhide HS4).1.later ((Below.refl _ _).drew)).c0, ((unhide HS4).2.1.later ((Below.refl _ _).drew)).c⟩
  refine region_reads 6 (fun W => W.cell? ⟨gf, 0, none⟩ = some (.bool b) ∧ W.cell? ⟨gs, 0, none⟩ = some (.slice az lz cz)) (fun _ => True) 7 rfl (by kernel_rfl) ?_
  refine wpR_take (i := 0) (oi := _) (v := .pointer (some ⟨gf, 0, none⟩)) rfl (by kernel_rfl) (by kernel_rfl) (by kernel_rfl) (by kernel_rfl) (fun _ _ _ h => h) (Or.inl ⟨by rfl, ?_⟩) ⟨unhide HR0, trivial⟩ ?_
  · intro W hW
    go_split_ands
    go_simp
  refine wpR_take (i := 1) (oi := _) (v := .bool b) rfl (by kernel_rfl) (by kernel_rfl) (by kernel_rfl) (by kernel_rfl) (fun _ _ _ h => h) (Or.inl ⟨by rfl, ?_⟩) ⟨unhide HR0, trivial⟩ ?_
  · intro W hW
    go_split_ands
    go_simp
  refine wpR_take (i := 2) (oi := _) (v := .agg #[.slice az lz cz]) rfl (by kernel_rfl) (by kernel_rfl) (by kernel_rfl) (by kernel_rfl) (fun _ _ _ h => h) (Or.inl ⟨by rfl, ?_⟩) ⟨unhide HR0, trivial⟩ ?_
  · intro W hW
    go_split_ands
    go_simp
  refine wpR_op (i := 3) (o := _) (by kernel_rfl) rfl rfl (fun K hK => ?_)
  go_simp
  refine (unhide HTX _ _ _ ((unhide HS4).2.2.2.1.later (Below.refl _ _).drew) (unhide HBS).2.2 (unhide HS4).2.2.2.2.2.2.drew).mono ?_
  rintro e w5 ⟨rfl, hb5⟩
  have HB5 := hide ((Below.refl V4.heap.size V4).drew.trans hb5); clear hb5; have HR5 : Hid (w5.cell? ⟨gf, 0, none⟩ = some (.bool b) ∧ w5.cell? ⟨gs, 0, none⟩ = some (.slice az lz cz)) := ⟨((unhide HS4).1.later (unhide HB5)).c0, ((unhide HS4).2.1.later (unhide HB5)).c⟩
  refine hK _ _ ⟨unhide HR5, trivial⟩ ?_
  clear hK K
  refine wpR_op (i := 4) (o := _) (by kernel_rfl) rfl rfl (fun K hK => ?_)
  go_simp
  refine (signed_any b (tx F) _ (unhide HSF)).mono ?_
  rintro e w6 ⟨rfl, rfl⟩
  skip
  refine hK _ _ ⟨unhide HR5, trivial⟩ ?_
  clear hK K
  refine wpR_op (i := 5) (o := _) (by kernel_rfl) rfl rfl (fun K hK => ?_)
  go_simp
  have HR6 : Hid ((w6.alloc (.cells #[.string (sx b F)] 9)).cell? ⟨gf, 0, none⟩ = some (.bool b) ∧ (w6.alloc (.cells #[.string (sx b F)] 9)).cell? ⟨gs, 0, none⟩ = some (.slice az lz cz)) := ⟨(((unhide HS4).1.later (unhide HB5)).later (alT_below _ _)).c0, (((unhide HS4).2.1.later (unhide HB5)).later (alT_below _ _)).c⟩
  refine hK _ _ ⟨unhide HR6, trivial⟩ ?_
  clear hK K
  refine wpR_late (i := 6) (o := _) (by kernel_rfl) rfl rfl (by kernel_rfl) (fun K hK => ?_)
  go_simp
  refine hK _ _ trivial ?_
  clear hK K
  refine wpR_done (by kernel_rfl) ?_
  obtain ⟨V6, hV6⟩ : ∃ V6, V6 = w6.alloc (.cells #[.string (sx b F)] 9) := ⟨_, rfl⟩
  have HB6 : Hid (Below V4.heap.size V4 V6) := by rw [hV6]; exact (unhide HB5).trans ((alT_below _ _).mono (unhide HB5).size)
  have HO6 : Hid (OwnT V6 B0 (.slice (some ⟨w6.heap.size, 0, none⟩) 1 1) (strsV (chT b F []))) := by rw [hV6, hB0]; exact OwnT.one _ _ _ (unhide HB5).size
  have HS6 : Hid (FBox V6 gf (.bool b) (.slice a1 l1 c1) (.slice a2 l2 c2) ∧ Box V6 gr (.slice ar lr cr) ∧ IsBig V6 (.agg #[.slice ar lr cr]) R ∧ IsBig V6 (.agg #[.slice a2 l2 c2]) d ∧ Below w.heap.size w V6) := ⟨(unhide HS4).1.later (unhide HB6), (unhide HS4).2.2.1.later (unhide HB6), (unhide HS4).2.2.2.2.1.later (unhide HB6), (unhide HS4).2.2.2.2.2.1.later (unhide HB6), (unhide HS4).2.2.2.2.2.2.trans ((unhide HB6).mono (unhide HS4).2.2.2.2.2.2.size)⟩
  have HZ6 : Hid (B0 ≤ V6.heap.size) := by rw [hB0]; exact (unhide HB6).size
  rw [show (if b = true then (⟨#[45]⟩ : ByteArray) ++ tx F else tx F) = sx b F from rfl, ← hV6]
  generalize hgk : w6.heap.size = gk at *
  clear hV6 HR6 HR5 HR0 HB5 HB6 HS4 hgk hB0
  have t2 := (unhide HS6).1.c2
  go_upto_region 7 with fail
  obtain ⟨V7, hV7⟩ : ∃ V7, V7 = V6.alloc (.cells #[.slice a2 l2 c2] 72) := ⟨_, rfl⟩
  have HL0 : Hid (CS w V7 gr V6.heap.size (.slice ar lr cr) (.slice a2 l2 c2) R d ∧ OwnT V7 B0 (.slice (some ⟨gk, 0, none⟩) 1 1) (strsV (chT b F [])) ∧ some V6.heap.size ≠ (Value.slice (some ⟨gk, 0, none⟩) 1 1).ownBlock ∧ B0 ≤ V7.heap.size ∧ B0 ≤ V6.heap.size) := by
    have hb : Below V6.heap.size V6 V7 := by rw [hV7]; exact alT_below _ _
    refine ⟨⟨(unhide HS6).2.1.later hb, by rw [hV7]; exact ⟨by simp [go_sem], by simp [go_sem]⟩, (unhide HS6).2.2.1.later hb, (unhide HS6).2.2.2.1.later hb, (unhide HS6).2.2.2.2.trans (hb.mono (unhide HS6).2.2.2.2.size)⟩, (unhide HO6).later hb, fun e => ?_, Nat.le_trans (unhide HZ6) hb.size, unhide HZ6⟩
    have := ((unhide HO6).lt _ e.symm).2; omega
  rw [← hV7]
  clear hV7 HS6 HO6 HZ6 t2
  generalize V6.heap.size = gd0 at *
  go_loopg [8, 9] R (fun z s8 s9 wr => ∃ (v : Value) (gd : Nat) (ar : Option Addr) (lr cr : Nat) (ad : Option Addr) (ld cd rr dd : Nat) (pre : List Nat), v = s8 ∧ s9 = .pointer (some ⟨gd, 0, none⟩) ∧ Hid (z = rr) ∧ Hid (CS w wr gr gd (.slice ar lr cr) (.slice ad ld cd) rr dd ∧ OwnT wr B0 v (strsV (chT b F pre)) ∧ some gd ≠ v.ownBlock ∧ B0 ≤ wr.heap.size ∧ B0 ≤ gd) ∧ Hid (Cub.EI d R dd rr pre))
  case atStart => exact ⟨_, gd0, ar, lr, cr, a2, l2, c2, R, d, [], rfl, rfl, rfl, HL0, HI0⟩
  case round =>
    clear HL0 HI0
    obtain ⟨v, gd, ar, lr, cr, ad, ld, cd, rr, dd, pre, rfl, rfl, HZ, HL, HI⟩ := hrel
    have t7 := (unhide HL).1.br.c
    by_cases hr0 : rr = 0
    · have hz0 : (rr == 0) = true := by rw [hr0]; rfl
      have HEU : Hid (Cub.EU d R pre) := by have h := unhide HI; rw [hr0] at h; exact h.last
      go_wp2_with (go_at_call 90; go_must (refine (isZero_any _ _ _ (unhide HL).1.ir).mono ?_; rintro e w8 ⟨rfl, hb8⟩; have HL8 : Hid (RowS w8 v (chT b F pre) ∧ Below w.heap.size w w8) := ⟨((unhide HL).2.1.later hb8).rowS, (unhide HL).1.below.trans (hb8.mono (unhide HL).1.below.size)⟩; clear hb8 t7; rw [hz0]))
      refine bodyPost_ret (v := .tuple #[v, .int .i64 0]) (by simp [results, Tryz.results57, go_sem]) rfl ⟨v, rfl, ?_, (unhide HL8).2⟩
      rw [(unhide HTS).det (unhide HEU)]
      exact (unhide HL8).1
    · have hz0 : (rr == 0) = false := by simpa using hr0
      have HDD : Hid (dd < 10 ^ E ∧ 0 < rr) := ⟨Nat.lt_of_le_of_lt (unhide HI).le (unhide HBS).2.1, by omega⟩
      have HI2 := hide ((unhide HI).step hr0)
      go_upto_region 8 with (go_at_call 90; go_must (refine (isZero_any _ _ _ (unhide HL).1.ir).mono ?_; rintro e w8 ⟨rfl, hb8⟩; have HL8 : Hid (CS w w8 gr gd (.slice ar lr cr) (.slice ad ld cd) rr dd ∧ OwnT w8 B0 v (strsV (chT b F pre)) ∧ some gd ≠ v.ownBlock ∧ B0 ≤ w8.heap.size ∧ B0 ≤ gd) := ⟨(unhide HL).1.later hb8, (unhide HL).2.1.later hb8, (unhide HL).2.2.1, Nat.le_trans (unhide HL).2.2.2.1 hb8.size, (unhide HL).2.2.2.2⟩; clear hb8 t7; rw [hz0]))
      have t7 := (unhide HL8).1.br.c; have t9 := (unhide HL8).1.bd.c
      go_upto_region 9 with (go_at_call 120; go_must (refine (unhide HDV _ _ _ _ _ (unhide HL8).1.id' (unhide HL8).1.ir (unhide HDD).1 (unhide HDD).2).mono ?_; rintro e wq ⟨ao, lo, co, al, ll, cl, rfl, ho, hl, hbq⟩; have HL9 : Hid (CS w wq gr gd (.slice ar lr cr) (.slice ad ld cd) rr dd ∧ OwnT wq B0 v (strsV (chT b F pre)) ∧ some gd ≠ v.ownBlock ∧ B0 ≤ wq.heap.size ∧ B0 ≤ gd) := ⟨(unhide HL8).1.later hbq, (unhide HL8).2.1.later hbq, (unhide HL8).2.2.1, Nat.le_trans (unhide HL8).2.2.2.1 hbq.size, (unhide HL8).2.2.2.2⟩; have HQ9 := hide (And.intro ho hl); clear ho hl hbq t7 t9))
      obtain ⟨VA, hVA⟩ : ∃ VA, VA = (wq.alloc (.cells #[.slice ao lo co] 72)).alloc (.cells #[.slice al ll cl] 72) := ⟨_, rfl⟩
      have HLA : Hid (CS w VA gr gd (.slice ar lr cr) (.slice ad ld cd) rr dd ∧ OwnT VA B0 v (strsV (chT b F pre)) ∧ some gd ≠ v.ownBlock ∧ B0 ≤ VA.heap.size ∧ Box VA wq.heap.size (.slice ao lo co) ∧ Box VA (wq.heap.size + 1) (.slice al ll cl) ∧ some (wq.heap.size + 1) ≠ v.ownBlock ∧ IsBig VA (.agg #[.slice ao lo co]) (dd / rr) ∧ IsBig VA (.agg #[.slice al ll cl]) (dd % rr)) := by
        have hb : Below wq.heap.size wq VA := by rw [hVA]; exact ((Below.refl _ _).alloc (Nat.le_refl _) _).alloc (by simp) _
        refine ⟨(unhide HL9).1.later hb, (unhide HL9).2.1.later hb, (unhide HL9).2.2.1, Nat.le_trans (unhide HL9).2.2.2.1 hb.size, by rw [hVA]; exact ⟨by simp [go_sem], by simp [go_sem]⟩, by rw [hVA]; exact ⟨by simp [go_sem], by simp [go_sem]⟩, fun e => ?_, (unhide HQ9).1.later hb, (unhide HQ9).2.later hb⟩
        have := ((unhide HL9).2.1.lt _ e.symm).2; omega
      have HGD := hide (unhide HL9).2.2.2.2
      have HGL : Hid (gd < wq.heap.size + 1 ∧ gr < wq.heap.size + 1) := ⟨by have := (unhide HL9).1.bd.lt; omega, by have := (unhide HL9).1.br.lt; omega⟩
      rw [← hVA]
      clear hVA HL HL8 HL9 HQ9
      obtain ⟨go, hgo⟩ : ∃ go, go = wq.heap.size := ⟨_, rfl⟩
      obtain ⟨gl, hgl⟩ : ∃ gl, gl = wq.heap.size + 1 := ⟨_, rfl⟩
      rw [← hgl, ← hgo] at HLA ⊢
      rw [← hgl] at HGL
      clear hgo hgl
      have tt0 := (unhide HLA).2.2.2.2.1.c
      have HQT : Hid (dd / rr < 1000000000 ^ 68) := Nat.lt_of_le_of_lt (Nat.div_le_self _ _) (Nat.lt_of_lt_of_le (unhide HDD).1 (Nat.le_trans (unhide HP6) (Nat.pow_le_pow_right (by decide) (by decide))))
      have HLN := hide (unhide HLE _ _ _ (unhide HI))
      go_upto_region 10 with (first
        | (go_at_call 92; go_must (refine (unhide HTX _ _ _ (unhide HLA).2.2.2.2.2.2.2.1 (unhide HQT) (unhide HLA).1.below).mono ?_; rintro e wt ⟨rfl, hbt⟩; have HLB : Hid (CS w wt gr gd (.slice ar lr cr) (.slice ad ld cd) rr dd ∧ OwnT wt B0 v (strsV (chT b F pre)) ∧ some gd ≠ v.ownBlock ∧ B0 ≤ wt.heap.size ∧ Box wt gl (.slice al ll cl) ∧ some gl ≠ v.ownBlock ∧ IsBig wt (.agg #[.slice al ll cl]) (dd % rr)) := ⟨(unhide HLA).1.later hbt, (unhide HLA).2.1.later hbt, (unhide HLA).2.2.1, Nat.le_trans (unhide HLA).2.2.2.1 hbt.size, (unhide HLA).2.2.2.2.2.1.later hbt, (unhide HLA).2.2.2.2.2.2.1, (unhide HLA).2.2.2.2.2.2.2.2.later hbt⟩; clear hbt tt0))
        | (at_builtin; go_must (refine wpList_appendT rfl _ _ rfl B0 _ (strsV (chT b F pre)) rfl ((unhide HLB).2.1.later (alT_below _ _)) ⟨wt.heap.size, 0, none⟩ 1 (.string (tx (dd / rr))) rfl (alT_one _ _) rfl (str_no _) (unhide HLN) (by have := (unhide HLB).2.2.2.1; simp; omega) rfl ?_; intro v2 wa hap; have HAP := hide hap; clear hap)))
      have HLC : Hid (CS w wa gr gd (.slice ar lr cr) (.slice ad ld cd) rr dd ∧ OwnT wa B0 v2 (strsV (chT b F (pre ++ [dd / rr]))) ∧ Box wa gl (.slice al ll cl) ∧ IsBig wa (.agg #[.slice al ll cl]) (dd % rr) ∧ B0 ≤ wa.heap.size) := by
        have ho := (unhide HLB).2.1.later (alT_below wt (.cells #[.string (tx (dd / rr))] 9))
        refine ⟨((unhide HLB).1.later (alT_below _ _)).app ho (unhide HAP) (unhide HG).1 (unhide HLB).2.2.1 (unhide HG).2, ?_, (unhide HAP).boxT ((unhide HLB).2.2.2.2.1.later (alT_below _ _)) (unhide HLB).2.2.2.2.2.1, (unhide HAP).big _ _ ((unhide HLB).2.2.2.2.2.2.later (alT_below _ _)), ?_⟩
        · rw [chT_snoc, ← strsV_snoc]; exact (unhide HAP).own
        · obtain ⟨_, _, _, h1, _⟩ := (unhide HAP).grown; have h2 := (unhide HLB).2.2.2.1; have h3 := (alT_below wt (.cells #[.string (tx (dd / rr))] 9)).size; omega
      have HNG : Hid (some gd ≠ v2.ownBlock ∧ some gr ≠ v2.ownBlock) := ⟨(unhide HLC).2.1.neBox (by rw [chT_len]; omega) (unhide HLC).1.bd, (unhide HLC).2.1.neBox (by rw [chT_len]; omega) (unhide HLC).1.br⟩
      clear HLA HLB HAP HQT HLN
      have HRA : Hid (wa.drew.cell? ⟨gr, 0, none⟩ = some (.slice ar lr cr) ∧ wa.drew.cell? ⟨gl, 0, none⟩ = some (.slice al ll cl)) := ⟨((unhide HLC).1.br.later ((Below.refl _ _).drew)).c, ((unhide HLC).2.2.1.later ((Below.refl _ _).drew)).c⟩
      have d9 := (unhide HLC).1.bd.c; have df9 := (unhide HLC).1.bd.f; have d7 := (unhide HLC).1.br.c; have df7 := (unhide HLC).1.br.f
      have hne1 : ¬ gd = gr := by have h1 := unhide HGD; have h2 := (unhide HG).1; omega
      have hne2 : ¬ gr = gd := by have h1 := unhide HGD; have h2 := (unhide HG).1; omega
      have HT0 : Hid (wa.drew.cell? ⟨gl, 0, none⟩ = some (.slice al ll cl)) := (unhide HRA).2
      have HT1 : Hid (((wa.setCell { block := gd, off := 0 } (.slice ar lr cr)).drew).cell? ⟨gl, 0, none⟩ = some (.slice al ll cl)) := (((unhide HLC).2.2.1.other (k := gd) (by have := (unhide HGL).1; omega) _).later ((Below.refl _ _).drew)).c
      have HT2 : Hid ((((wa.setCell { block := gd, off := 0 } (.slice ar lr cr)).setCell { block := gr, off := 0 } (.slice al ll cl)).drew).cell? ⟨gl, 0, none⟩ = some (.slice al ll cl)) := ((((unhide HLC).2.2.1.other (k := gd) (by have := (unhide HGL).1; omega) _).other (k := gr) (by have := (unhide HGL).2; omega) _).later ((Below.refl _ _).drew)).c
      refine region_reads 2 (fun W => W.cell? ⟨gr, 0, none⟩ = some (.slice ar lr cr)) (fun W => W.cell? ⟨gl, 0, none⟩ = some (.slice al ll cl)) 4 rfl (by kernel_rfl) ?_
      refine wpR_take (i := 0) (oi := _) (v := .agg #[.slice ar lr cr]) rfl (by kernel_rfl) (by kernel_rfl) (by kernel_rfl) (by kernel_rfl) (fun _ _ _ h => h) (Or.inl ⟨by rfl, ?_⟩) ⟨(unhide HRA).1, unhide HT0⟩ ?_
      · intro W hW
        go_split_ands
        go_simp
      refine wpR_take7 (i := 1) (oi := _) (v := .agg #[.slice al ll cl]) rfl (by kernel_rfl) (by kernel_rfl) (by kernel_rfl) (by kernel_rfl) (fun _ _ _ h => h) (Or.inl ⟨by rfl, ?_⟩) ⟨(unhide HRA).1, unhide HT0⟩ ?_
      · intro W hW
        go_split_ands
        go_simp
      refine wpR_late (i := 2) (o := _) (by kernel_rfl) rfl rfl (by kernel_rfl) (fun K hK => ?_)
      go_simp
      refine hK _ _ (unhide HT1) ?_
      clear hK K
      refine wpR_late (i := 3) (o := _) (by kernel_rfl) rfl rfl (by kernel_rfl) (fun K hK => ?_)
      go_simp
      refine hK _ _ (unhide HT2) ?_
      clear hK K
      refine wpR_done (by kernel_rfl) ?_
      obtain ⟨VB, hVB⟩ : ∃ VB, VB = ((wa.setCell { block := gd, off := 0 } (.slice ar lr cr)).setCell { block := gr, off := 0 } (.slice al ll cl)).drew := ⟨_, rfl⟩
      have HLD : Hid (CS w VB gr gd (.slice al ll cl) (.slice ar lr cr) (dd % rr) rr ∧ OwnT VB B0 v2 (strsV (chT b F (pre ++ [dd / rr]))) ∧ B0 ≤ VB.heap.size) := by
        rw [hVB]
        have hc := (unhide HLC).1
        have hb0 := (unhide HG).2
        refine ⟨⟨((hc.br.other (k := gd) (by omega) _).set _).later ((Below.refl _ _).drew), ((hc.bd.set _).other (k := gr) (by omega) _).later ((Below.refl _ _).drew), (((unhide HLC).2.2.2.1.box _ d9 (sl_no _ _ _)).box _ (hc.br.other (k := gd) (by omega) _).c (sl_no _ _ _)).later ((Below.refl _ _).drew), ((hc.ir.box _ d9 (sl_no _ _ _)).box _ (hc.br.other (k := gd) (by omega) _).c (sl_no _ _ _)).later ((Below.refl _ _).drew), ?_⟩, ?_, ?_⟩
        · exact ((hc.below.setCell (p := ⟨gd, 0, none⟩) (by have := unhide HGD; show w.heap.size ≤ gd; omega) _).setCell (p := ⟨gr, 0, none⟩) (by have := unhide HWG; exact this) _).drew
        · exact (((unhide HLC).2.1.apart ⟨gd, 0, none⟩ _ (unhide HNG).1).apart ⟨gr, 0, none⟩ _ (unhide HNG).2).later ((Below.refl _ _).drew)
        · have := (unhide HLC).2.2.2.2; simpa using this
      rw [← hVB]
      clear hVB HLC HRA HT0 HT1 HT2 d9 df9 d7 df7 hne1 hne2 HNG
      have t9 := (unhide HLD).1.bd.c
      go_wp2_with fail
      go_roundg (dd % rr)
      case measure => have h1 := unhide HZ; have h2 := Nat.mod_lt dd (unhide HDD).2; omega
      case rel =>
        have hb : Below VB.heap.size VB (VB.alloc (.cells #[.slice ar lr cr] 72)) := alT_below _ _
        have hn : some VB.heap.size ≠ v2.ownBlock := fun e => by have := ((unhide HLD).2.1.lt _ e.symm).2; omega
        exact ⟨v2, VB.heap.size, al, ll, cl, ar, lr, cr, dd % rr, rr, pre ++ [dd / rr], rfl, rfl, rfl, ⟨⟨(unhide HLD).1.br.later hb, ⟨by simp [go_sem], by simp [go_sem]⟩, (unhide HLD).1.ir.later hb, (unhide HLD).1.id'.later hb, (unhide HLD).1.below.trans (hb.mono (unhide HLD).1.below.size)⟩, (unhide HLD).2.1.later hb, hn, Nat.le_trans (unhide HLD).2.2 hb.size, (unhide HLD).2.2⟩, HI2⟩
end Go.Proofs.YtndhinoomlofgaaGreatDoor

namespace Go.Proofs.YtndhinoomlofgaaGreatDoor
open Go.RowKit

theorem toList_less (s t : ByteArray) (hs : Cub.isNat s.data.toList) (ht : Cub.isNat t.data.toList) (hl : s.size = t.size) : Op.bytesLess s.toList t.toList = decide (Cub.dval s.data.toList < Cub.dval t.data.toList) := by
  rw [Lib.toList_data, Lib.toList_data]
  exact Cub.bytesLess_dval _ _ hs.1 ht.1 (by rw [list_len, list_len]; exact hl)
theorem toList_same (s t : ByteArray) (hs : Cub.isNat s.data.toList) (ht : Cub.isNat t.data.toList) : (s.toList == t.toList) = decide (Cub.dval s.data.toList = Cub.dval t.data.toList) := by
  rw [Lib.toList_data, Lib.toList_data, Bool.eq_iff_iff, beq_iff_eq, decide_eq_true_eq]
  exact ⟨fun h => by rw [h], fun h => Cub.dval_inj hs ht h⟩

set_option maxRecDepth 100000 in
set_option maxHeartbeats 400000 in
theorem compare_any (s t : ByteArray) (w : World) (hs : Cub.isNat s.data.toList) (ht : Cub.isNat t.data.toList) :
    Calls Tryz.prog 126 #[.string s, .string t] w fun e w' => e = .returned (.int .i64 (Cub.cmpN (Cub.dval s.data.toList) (Cub.dval t.data.toList))) ∧ w' = w := by
  by_cases hl : s.size = t.size
  · have hne : ((s.size : Int) != (t.size : Int)) = false := by rw [hl]; simp
    have hless := toList_less s t hs ht hl
    have hsame := toList_same s t hs ht
    by_cases hc : Cub.dval s.data.toList < Cub.dval t.data.toList
    · have e : Cub.cmpN (Cub.dval s.data.toList) (Cub.dval t.data.toList) = -1 := if_pos hc
      rw [e]
      rw [decide_eq_true hc] at hless
      clear hsame hs ht hl e hc
      go_enter Tryz.func126, Tryz.ntmps126
      go_wp2
      go_ret
      exact ⟨rfl, rfl⟩
    · rw [decide_eq_false hc] at hless
      by_cases hc2 : Cub.dval t.data.toList < Cub.dval s.data.toList
      · have e : Cub.cmpN (Cub.dval s.data.toList) (Cub.dval t.data.toList) = 1 := by unfold Cub.cmpN; rw [if_neg hc, if_pos hc2]
        rw [e]
        rw [decide_eq_false (by omega)] at hsame
        clear hs ht hl e hc hc2
        go_enter Tryz.func126, Tryz.ntmps126
        go_wp2
        go_ret
        exact ⟨rfl, rfl⟩
      · have e : Cub.cmpN (Cub.dval s.data.toList) (Cub.dval t.data.toList) = 0 := by unfold Cub.cmpN; rw [if_neg hc, if_neg hc2]
        rw [e]
        rw [decide_eq_true (by omega)] at hsame
        clear hs ht hl e hc hc2
        go_enter Tryz.func126, Tryz.ntmps126
        go_wp2
        go_ret
        exact ⟨rfl, rfl⟩
  · have hne : ((s.size : Int) != (t.size : Int)) = true := by rw [bne_iff_ne]; omega
    by_cases hlt : s.size < t.size
    · have e : Cub.cmpN (Cub.dval s.data.toList) (Cub.dval t.data.toList) = -1 := if_pos (Cub.len_lt_dval hs ht (by rw [list_len, list_len]; exact hlt))
      rw [e]
      clear hs ht hl e
      go_enter Tryz.func126, Tryz.ntmps126
      go_wp2
      go_ret
      exact ⟨rfl, rfl⟩
    · have e0 := Cub.len_lt_dval ht hs (by rw [list_len, list_len]; omega)
      have e : Cub.cmpN (Cub.dval s.data.toList) (Cub.dval t.data.toList) = 1 := by unfold Cub.cmpN; rw [if_neg (by omega), if_pos e0]
      rw [e]
      clear hs ht hl e e0
      go_enter Tryz.func126, Tryz.ntmps126
      go_wp2
      go_ret
      exact ⟨rfl, rfl⟩
theorem refCompareM (m n : Nat) (w : World) : Calls Tryz.prog 126 #[.string (tx m), .string (tx n)] w fun e w' => e = .returned (.int .i64 (Cub.cmpN m n)) ∧ w' = w := by
  have h := compare_any (tx m) (tx n) w (tx_nat m) (tx_nat n)
  rw [show Cub.dval (tx m).data.toList = m from tx_val m, show Cub.dval (tx n).data.toList = n from tx_val n] at h
  exact h

end Go.Proofs.YtndhinoomlofgaaGreatDoor

namespace Go.Proofs.YtndhinoomlofgaaGreatDoor
open Go.RowKit

/-- Two fractions laid in boxes, a third for the answer. -/
structure F3 (w V : World) (x0 x1 x2 y0 y1 y2 : Value) : Prop where
  x : FBox V w.heap.size x0 x1 x2
  y : FBox V (w.heap.size + 1) y0 y1 y2
  r : FBox V (w.heap.size + 1 + 1) (.bool false) (.string ⟨#[]⟩) (.string ⟨#[]⟩)
  below : Below w.heap.size w V
theorem F3.later {w V W : World} {x0 x1 x2 y0 y1 y2 : Value} (h : F3 w V x0 x1 x2 y0 y1 y2) (hb : Below V.heap.size V W) : F3 w W x0 x1 x2 y0 y1 y2 :=
  ⟨h.x.later hb, h.y.later hb, h.r.later hb, h.below.trans (hb.mono h.below.size)⟩
theorem F3.first (w : World) (x0 x1 x2 y0 y1 y2 : Value) : F3 w (((w.alloc (.cells #[x0, x1, x2] 61)).alloc (.cells #[y0, y1, y2] 61)).alloc (.cells #[.bool false, .string ⟨#[]⟩, .string ⟨#[]⟩] 61)) x0 x1 x2 y0 y1 y2 :=
  ⟨⟨by simp [go_sem], by simp [go_sem], by simp [go_sem], by simp [go_sem], by simp [go_sem], by simp [go_sem]⟩, ⟨by simp [go_sem], by simp [go_sem], by simp [go_sem], by simp [go_sem], by simp [go_sem], by simp [go_sem]⟩, ⟨by simp [go_sem], by simp [go_sem], by simp [go_sem], by simp [go_sem], by simp [go_sem], by simp [go_sem]⟩,
    (((Below.refl _ _).alloc (Nat.le_refl _) _).alloc (by simp) _).alloc (by simp; omega) _⟩

end Go.Proofs.YtndhinoomlofgaaGreatDoor

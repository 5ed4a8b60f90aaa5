/- rat.simplest: the simplest number between two. -/
import Derived.Test.YtndhinoomlofgaaGreatDoorFrCf2
import Derived.Test.YtndhinoomlofgaaGreatDoorTwo
import Derived.WalkMore
import Derived.Test.YtndhinoomlofgaaGreatDoorRead
namespace Go.Proofs.YtndhinoomlofgaaGreatDoor
open Go.RowKit
/-- Both numbers in their boxes, and the result's. -/
structure SB (w W : World) (x1 x2 y1 y2 : Value) (a b c d : Nat) : Prop where
  bl : FBox W w.heap.size (.bool false) x1 x2
  bh : FBox W (w.heap.size + 1) (.bool false) y1 y2
  br : FBox W (w.heap.size + 1 + 1) (.bool false) (.slice none 0 0) (.slice none 0 0)
  ia : IsBig W (.agg #[x1]) a
  ib : IsBig W (.agg #[x2]) b
  ic : IsBig W (.agg #[y1]) c
  id' : IsBig W (.agg #[y2]) d
  below : Below w.heap.size w W
theorem SB.later {w W V : World} {x1 x2 y1 y2 : Value} {a b c d : Nat} (s : SB w W x1 x2 y1 y2 a b c d) (hb : Below W.heap.size W V) : SB w V x1 x2 y1 y2 a b c d :=
  ⟨s.bl.later hb, s.bh.later hb, s.br.later hb, s.ia.later hb, s.ib.later hb, s.ic.later hb, s.id'.later hb, s.below.trans (hb.mono s.below.size)⟩
/-- The whole parts found so far. -/
structure TR (W : World) (base : Nat) (v : Value) (vs : List Value) (pre : List Nat) : Prop where
  own : OwnN W base v vs
  len : vs.length = pre.length
  big : ∀ i (h : i < vs.length) (h' : i < pre.length), (∃ a l c, vs[i] = .slice a l c) ∧ IsBig W (.agg #[vs[i]]) pre[i]
theorem TR.later {W V : World} {base : Nat} {v : Value} {vs : List Value} {pre : List Nat} (s : TR W base v vs pre) (hb : Below W.heap.size W V) : TR V base v vs pre :=
  ⟨s.own.later hb, s.len, fun i h h' => ⟨(s.big i h h').1, (s.big i h h').2.later hb⟩⟩
theorem TR.nil (W : World) (base : Nat) : TR W base (.slice none 0 0) [] [] := ⟨OwnN.nil _ _, rfl, fun i h => by simp at h⟩
theorem TR.push {W W' : World} {base : Nat} {v v' : Value} {vs : List Value} {pre : List Nat} {a : Option Addr} {l c n : Nat} (s : TR W base v vs pre) (h : AppN W W' base v v' vs (.slice a l c)) (hx : IsBig W (.agg #[.slice a l c]) n) : TR W' base v' (vs ++ [.slice a l c]) (pre ++ [n]) := by
  refine ⟨h.own, by simp [s.len], fun i h1 h2 => ?_⟩
  have hl := s.len
  rcases Nat.lt_or_ge i vs.length with h3 | h3
  · rw [List.getElem_append_left h3, List.getElem_append_left (by omega)]
    exact ⟨(s.big i h3 (by omega)).1, h.big _ _ (s.big i h3 (by omega)).2⟩
  · obtain rfl : i = vs.length := by simp at h1; omega
    have e1 : (vs ++ [Value.slice a l c])[vs.length] = .slice a l c := by simp
    have e2 : (pre ++ [n])[vs.length] = n := by simp [hl]
    rw [e1, e2]
    exact ⟨⟨_, _, _, rfl⟩, h.big _ _ hx⟩
theorem SB.app {w W W' : World} {x1 x2 y1 y2 : Value} {a b c d base : Nat} {v v' : Value} {vs : List Value} {x : Value} (s : SB w W x1 x2 y1 y2 a b c d) (ho : OwnN W base v vs) (h : AppN W W' base v v' vs x) (hb : base = w.heap.size + 3) : SB w W' x1 x2 y1 y2 a b c d := by
  have hl := s.br.lt
  have ne : ∀ k, k < w.heap.size + 3 → some k ≠ v.ownBlock := fun k hk e => by have := (ho.lt k e.symm).1; omega
  have bx : ∀ k {u1 u2 u3 : Value}, k < w.heap.size + 3 → FBox W k u1 u2 u3 → FBox W' k u1 u2 u3 := fun k u1 u2 u3 hk f => by
    have hkl := f.lt
    have q := fun o => h.box (k := k) hkl (ne k hk) o
    exact ⟨(q 0).1.trans f.c0, (q 1).1.trans f.c1, (q 2).1.trans f.c2, (q 0).2.trans f.f0, (q 1).2.trans f.f1, (q 2).2.trans f.f2⟩
  exact ⟨bx _ (by omega) s.bl, bx _ (by omega) s.bh, bx _ (by omega) s.br, h.big _ _ s.ia, h.big _ _ s.ib, h.big _ _ s.ic, h.big _ _ s.id', h.below ho s.below (by omega) (by omega)⟩
theorem AppN.boxK {w w' : World} {base : Nat} {v v' : Value} {xs : List Value} {x u : Value} {k : Nat} (h : AppN w w' base v v' xs x) (hk : Box w k u) (hne : some k ≠ v.ownBlock) : Box w' k u :=
  ⟨(h.box hk.lt hne 0).1.trans hk.c, (h.box hk.lt hne 0).2.trans hk.f⟩
/-- The boxes of one round. -/
structure RX (W : World) (v5 : Value) (g6 g7 g8 g9 : Nat) (u6 u7 u8 u9 : Value) (q r m o : Nat) : Prop where
  b6 : Box W g6 u6
  b7 : Box W g7 u7
  b8 : Box W g8 u8
  b9 : Box W g9 u9
  i6 : IsBig W (.agg #[u6]) q
  i7 : IsBig W (.agg #[u7]) r
  i8 : IsBig W (.agg #[u8]) m
  i9 : IsBig W (.agg #[u9]) o
  n6 : some g6 ≠ v5.ownBlock
  n7 : some g7 ≠ v5.ownBlock
  n9 : some g9 ≠ v5.ownBlock
theorem RX.later {W V : World} {v5 : Value} {g6 g7 g8 g9 : Nat} {u6 u7 u8 u9 : Value} {q r m o : Nat} (s : RX W v5 g6 g7 g8 g9 u6 u7 u8 u9 q r m o) (hb : Below W.heap.size W V) : RX V v5 g6 g7 g8 g9 u6 u7 u8 u9 q r m o :=
  ⟨s.b6.later hb, s.b7.later hb, s.b8.later hb, s.b9.later hb, s.i6.later hb, s.i7.later hb, s.i8.later hb, s.i9.later hb, s.n6, s.n7, s.n9⟩
theorem al_one (W : World) (u : Value) : (W.alloc (.cells #[u] 72)).cell? ⟨W.heap.size, 0, none⟩ = some u := by simp [go_sem]
theorem al_below (W : World) (O : Obj) : Below W.heap.size W (W.alloc O) := (Below.refl _ _).alloc (Nat.le_refl _) _
theorem SB.step {w W : World} {a2 a4 a7 a9 : Option Addr} {l2 c2 l4 c4 l7 c7 l9 c9 : Nat} {x1 y1 : Value} {a b c d r o : Nat} {a1 a3 : Option Addr} {l1 c1 l3 c3 : Nat} (hx1 : x1 = .slice a1 l1 c1) (hy1 : y1 = .slice a3 l3 c3)
    (s : SB w W x1 (.slice a2 l2 c2) y1 (.slice a4 l4 c4) a b c d) (ho : IsBig W (.agg #[.slice a9 l9 c9]) o) (hr : IsBig W (.agg #[.slice a7 l7 c7]) r) :
    SB w (store3 (store3 W w.heap.size (.bool false) (.slice a4 l4 c4) (.slice a9 l9 c9)) (w.heap.size + 1) (.bool false) (.slice a2 l2 c2) (.slice a7 l7 c7)) (.slice a4 l4 c4) (.slice a9 l9 c9) (.slice a2 l2 c2) (.slice a7 l7 c7) d o b r := by
  subst hx1; subst hy1
  have f1 := s.bl.store (.bool false) (.slice a4 l4 c4) (.slice a9 l9 c9)
  have f2 := s.bh.other3 (k := w.heap.size) (by omega) (.bool false) (.slice a4 l4 c4) (.slice a9 l9 c9)
  have f3 := s.br.other3 (k := w.heap.size) (by omega) (.bool false) (.slice a4 l4 c4) (.slice a9 l9 c9)
  have t : ∀ {v n}, IsBig W v n → IsBig (store3 (store3 W w.heap.size (.bool false) (.slice a4 l4 c4) (.slice a9 l9 c9)) (w.heap.size + 1) (.bool false) (.slice a2 l2 c2) (.slice a7 l7 c7)) v n := fun h => f2.big _ _ _ (s.bl.big _ _ _ h)
  exact ⟨f1.other3 (by omega) _ _ _, f2.store _ _ _, f3.other3 (by omega) _ _ _, t s.id', t ho, t s.ib, t hr, below_store3 (below_store3 s.below (Nat.le_refl _) _ _ _) (by omega) _ _ _⟩
theorem TR.step {w W : World} {v : Value} {vs : List Value} {pre : List Nat} {g : Nat} {b : Bool} {a1 a2 : Option Addr} {l1 c1 l2 c2 : Nat} (s : TR W (w.heap.size + 3) v vs pre) (f : FBox W g (.bool b) (.slice a1 l1 c1) (.slice a2 l2 c2)) (hg : g < w.heap.size + 3) (x y z : Value) : TR (store3 W g x y z) (w.heap.size + 3) v vs pre :=
  ⟨((s.own.other ⟨g, 0, none⟩ x hg).other ⟨g, 1, none⟩ y hg).other ⟨g, 2, none⟩ z hg, s.len, fun i h h' => ⟨(s.big i h h').1, f.big _ _ _ (s.big i h h').2⟩⟩
theorem unfold_tail {w6 : World} {base g cap E A B C D : Nat} {vs2 : List Value} {ts2 : List Nat} (ht : TR w6 base (.slice (some ⟨g, 0, none⟩) vs2.length cap) vs2 ts2) (hcf : Cub.CF A B C D ts2) (ho : Cub.Ord A B C D) (hE : E = 600) (p6 : 10 ^ E ≤ 1000000000 ^ 67) (b4 : A < 10 ^ E ∧ B < 10 ^ E ∧ C < 10 ^ E ∧ D < 10 ^ E)
    (ad : Option Addr) (n' cap' : Nat) (hn' : n' = vs2.length - 1) (h1 : n' ≤ cap') (h2 : cap' ≤ 9223372036854775807) (h3 : vs2.length = 1 ∨ ad = some ⟨g, 1, none⟩) :
    Calls Tryz.prog 124 #[.slice ad n' cap'] w6 fun e w' => ∃ a l c a' l' c', e = .returned (.tuple #[.agg #[.slice a l c], .agg #[.slice a' l' c'], .bool true]) ∧ IsBig w' (.agg #[.slice a l c]) (Cub.pr ts2.tail).2 ∧ IsBig w' (.agg #[.slice a' l' c']) (Cub.pr ts2.tail).1 ∧ Below w6.heap.size w6 w' := by
  have hne : ts2 ≠ [] := hcf.ne
  have hts : 0 < ts2.length := List.length_pos_iff.2 hne
  have hll := ht.len
  have hlt : ts2.tail.length = n' := by rw [List.length_tail, ← hll, hn']
  have hun := Cub.un_val ts2.tail
  have hbd := hcf.bound ho
  have hrow : RowN w6 (.slice ad n' cap') ts2.tail := by
    refine ⟨ad, cap', by rw [hlt], by omega, h2, fun i hi => ?_⟩
    rcases h3 with h3 | h3
    · omega
    · have hi2 : i + 1 < vs2.length := by omega
      obtain ⟨g', cap2, e, _, _, hcell⟩ := ht.own.cells (i + 1) hi2
      simp only [Value.slice.injEq, Option.some.injEq, Addr.mk.injEq] at e
      obtain ⟨⟨a', l', c', hx⟩, hbg⟩ := ht.big (i + 1) hi2 (by omega)
      rw [hx] at hcell hbg
      rw [← e.1.1] at hcell
      refine ⟨g, 1, a', l', c', h3, World.block_lt_of_cell? _ _ hcell, ?_, ?_⟩
      · rw [Nat.add_comm 1 i]; exact hcell
      · rw [List.getElem_tail]; exact hbg
  have hsm : ∀ t ∈ ts2.tail, t < 1000000000 ^ 67 := fun t htt => Nat.lt_of_lt_of_le (hcf.small ho b4.1 b4.2.1 b4.2.2.1 b4.2.2.2 t (List.mem_of_mem_tail htt)) p6
  have hd : (Cub.un ts2.tail).2.1 < 10 ^ 600 := by
    rw [hun.2, ← Cub.pr_tail hne, ← hE]
    exact Nat.lt_of_le_of_lt hbd.2.2.1 b4.2.1
  have hres := unfold_ok (.slice ad n' cap') ts2.tail w6 hrow (hcf.tail_pos ho) hsm hd
  rw [hun.1, hun.2] at hres
  exact hres
/-- The first whole part, and what stands behind it. -/
structure TX (W : World) (g gn gd : Nat) (x un ud : Value) (t n d : Nat) : Prop where
  c0 : W.cell? ⟨g, 0, none⟩ = some x
  bn : Box W gn un
  bd : Box W gd ud
  ix : IsBig W (.agg #[x]) t
  in' : IsBig W (.agg #[un]) n
  id' : IsBig W (.agg #[ud]) d
theorem TX.later {W V : World} {g gn gd : Nat} {x un ud : Value} {t n d : Nat} (s : TX W g gn gd x un ud t n d) (hb : Below W.heap.size W V) : TX V g gn gd x un ud t n d :=
  ⟨(hb.cell (p := ⟨g, 0, none⟩) (World.block_lt_of_cell? _ _ s.c0)).trans s.c0, s.bn.later hb, s.bd.later hb, s.ix.later hb, s.in'.later hb, s.id'.later hb⟩
theorem pair_q {W : World} {s1 s2 : Value} {n d : Nat} (h1 : IsBig W (.agg #[s1]) n) (h2 : IsBig W (.agg #[s2]) d) (hd : 0 < d) (hg : Nat.gcd n d = 1) (b1 : n < 1000000000 ^ 67) (b2 : d < 1000000000 ^ 67) : QOf W (.agg #[.bool false, s1, s2]) (Cub.valQ false n d) 67 :=
  ⟨false, n, d, ⟨_, _, rfl, h1, h2⟩, ⟨hd, hg, fun h => by cases h⟩, rfl, b1, b2⟩
/-- The sum told again by its value. -/
theorem sum_q {W : World} {rb : Bool} {rn rd t n d : Nat} {s1 s2 : Value} (h1 : IsBig W (.agg #[s1]) rn) (h2 : IsBig W (.agg #[s2]) rd) (hl : Cub.Low rb rn rd) (hv : Cub.valQ rb rn rd = Cub.valQ false t 1 + Cub.valQ false n d) (hd : 0 < d) (hg : Nat.gcd n d = 1) (b1 : t * d + n < 1000000000 ^ 67) (b2 : d < 1000000000 ^ 67) : QOf W (.agg #[.bool rb, s1, s2]) (Cub.valQ false (t * d + n) d) 67 := by
  rw [Cub.sum_val t n d hd] at hv
  have hl2 : Cub.Low false (t * d + n) d := ⟨hd, by rw [Nat.gcd_comm, Nat.gcd_mul_right_add_right, Nat.gcd_comm]; exact hg, fun h => by cases h⟩
  obtain ⟨rfl, rfl, rfl⟩ := Cub.low_unique hl hl2 hv
  exact ⟨false, _, _, ⟨_, _, rfl, h1, h2⟩, hl2, rfl, b1, b2⟩
theorem box_store3 {W : World} {g k : Nat} {u : Value} (h : Box W k u) (hk : k ≠ g) (x y z : Value) : Box (store3 W g x y z) k u := by
  have t : ∀ {V : World} (o : Nat) (v : Value), Box V k u → Box (V.setCell ⟨g, o, none⟩ v) k u := fun o v f => ⟨by rw [World.cell?_setCell_other _ _ _ _ (by intro e; exact hk (congrArg Addr.block e).symm)]; exact f.c, by rw [World.frozen?_setCell]; exact f.f⟩
  exact t 2 z (t 1 y (t 0 x h))

set_option maxRecDepth 100000 in
set_option maxHeartbeats 4000000 in
theorem simplest_ok (a1 a2 a3 a4 : Option Addr) (l1 c1 l2 c2 l3 c3 l4 c4 A B C D : Nat) (w : World)
    (hA : IsBig w (.agg #[.slice a1 l1 c1]) A) (hB : IsBig w (.agg #[.slice a2 l2 c2]) B) (hC : IsBig w (.agg #[.slice a3 l3 c3]) C) (hD : IsBig w (.agg #[.slice a4 l4 c4]) D) (ho : Cub.Ord A B C D) (bA : A < 10 ^ 600) (bB : B < 10 ^ 600) (bC : C < 10 ^ 600) (bD : D < 10 ^ 600) :
    Calls Tryz.prog 118 #[.agg #[.bool false, .slice a1 l1 c1, .slice a2 l2 c2], .agg #[.bool false, .slice a3 l3 c3, .slice a4 l4 c4]] w fun e w' => ∃ v ts, e = .returned v ∧ Cub.CF A B C D ts ∧ QOf w' v (Cub.valQ false (Cub.pr ts).1 (Cub.pr ts).2) 67 ∧ Below w.heap.size w w' := by
  obtain ⟨V, hV⟩ : ∃ V, V = ((w.alloc (.cells #[.bool false, .slice a1 l1 c1, .slice a2 l2 c2] 74)).alloc (.cells #[.bool false, .slice a3 l3 c3, .slice a4 l4 c4] 74)).alloc (.cells #[.bool false, .slice none 0 0, .slice none 0 0] 74) := ⟨_, rfl⟩
  have HS0 : Hid (SB w V (.slice a1 l1 c1) (.slice a2 l2 c2) (.slice a3 l3 c3) (.slice a4 l4 c4) A B C D) := by
    have hb : Below w.heap.size w V := by rw [hV]; exact (((Below.refl _ _).alloc (Nat.le_refl _) _).alloc (by simp) _).alloc (by simp; omega) _
    refine ⟨?_, ?_, ?_, hA.later hb, hB.later hb, hC.later hb, hD.later hb, hb⟩ <;> (rw [hV]; exact ⟨by simp [go_sem], by simp [go_sem], by simp [go_sem], by simp [go_sem], by simp [go_sem], by simp [go_sem]⟩)
  have HV := hide hV
  obtain ⟨E, hE⟩ : ∃ E : Nat, E = 600 := ⟨_, rfl⟩
  have HP6 : Hid (10 ^ E ≤ 1000000000 ^ 67) := by rw [hE]; exact pow_nine 600 67 (by decide)
  rw [← hE] at bA bB bC bD
  have HI0 : Hid (Cub.SI E A B C D A B C D []) := Cub.SI.first ho bA bB bC bD
  have HB4 : Hid (A < 10 ^ E ∧ B < 10 ^ E ∧ C < 10 ^ E ∧ D < 10 ^ E) := ⟨bA, bB, bC, bD⟩
  have HO := hide ho
  have HE := hide hE
  have HDV : Hid (∀ W x y m n, IsBig W x m → IsBig W y n → m < 10 ^ E → 0 < n → Calls Tryz.prog 120 #[x, y] W fun e w' => ∃ a1 n1 c1 a2 n2 c2, e = .returned (.tuple #[.agg #[.slice a1 n1 c1], .agg #[.slice a2 n2 c2]]) ∧ IsBig w' (.agg #[.slice a1 n1 c1]) (m / n) ∧ IsBig w' (.agg #[.slice a2 n2 c2]) (m % n) ∧ Below W.heap.size W w') := fun W x y m n hx hy hm hn => divAns 67 (by decide) W x y m n hx hy (Nat.lt_of_lt_of_le hm (unhide HP6)) hn
  have HBO : Hid (∀ W, Calls Tryz.prog 114 #[.int .u64 1] W fun e w' => ∃ a n c, e = .returned (.agg #[.slice a n c]) ∧ IsBig w' (.agg #[.slice a n c]) 1 ∧ Below W.heap.size W w') := fun W => bigOf_any 1 W (by decide)
  clear hA hB hC hD bA bB bC bD ho hE
  go_enter Tryz.func118, Tryz.ntmps118
  go_wp2
  rw [← unhide HV]
  clear hV HV
  go_step3
  go_wp2
  go_step3
  go_wp2
  go_loopg [5] (B + D) (fun z s5 wr => ∃ (v5 : Value) (a1 : Option Addr) (l1 c1 : Nat) (a2 : Option Addr) (l2 c2 : Nat) (a3 : Option Addr) (l3 c3 : Nat) (a4 : Option Addr) (l4 c4 a b c d : Nat) (vs : List Value) (pre : List Nat), v5 = s5 ∧ Hid (z = b + d) ∧ Hid (SB w wr (.slice a1 l1 c1) (.slice a2 l2 c2) (.slice a3 l3 c3) (.slice a4 l4 c4) a b c d) ∧ Hid (TR wr (w.heap.size + 3) v5 vs pre) ∧ Hid (Cub.SI E A B C D a b c d pre))
  case atStart => exact ⟨_, _, _, _, _, _, _, _, _, _, _, _, _, A, B, C, D, [], [], rfl, rfl, HS0, TR.nil _ _, HI0⟩
  case round =>
    clear HS0 HI0
    obtain ⟨v5, a1, l1, c1, a2, l2, c2, a3, l3, c3, a4, l4, c4, a, b, c, d, vs, pre, rfl, HZ, HS, HT, HI⟩ := hrel
    have t1 := (unhide HS).bl.c1; have t2 := (unhide HS).bl.c2
    go_upto_region 3 with (go_at_call 120; go_must (refine (unhide HDV _ _ _ _ _ (unhide HS).ia (unhide HS).ib (unhide HI).ha (unhide HI).ord.b0).mono ?_; rintro e w1 ⟨a6, l6, c6, a7, l7, c7, rfl, hq, hr, hb1⟩; have HS1 := hide ((unhide HS).later hb1); have HT1 := hide ((unhide HT).later hb1); have HQ := hide (And.intro hq hr); clear hq hr hb1 t1 t2))
    obtain ⟨V2, hV2⟩ : ∃ V2, V2 = (w1.alloc (.cells #[.slice a6 l6 c6] 72)).alloc (.cells #[.slice a7 l7 c7] 72) := ⟨_, rfl⟩
    have hb2 : Below w1.heap.size w1 V2 := by rw [hV2]; exact ((Below.refl _ _).alloc (Nat.le_refl _) _).alloc (by simp) _
    have HS2 := hide ((unhide HS1).later hb2); have HT2 := hide ((unhide HT1).later hb2)
    have HQ2 : Hid (Box V2 w1.heap.size (.slice a6 l6 c6) ∧ Box V2 (w1.heap.size + 1) (.slice a7 l7 c7) ∧ IsBig V2 (.agg #[.slice a6 l6 c6]) (a / b) ∧ IsBig V2 (.agg #[.slice a7 l7 c7]) (a % b)) :=
      ⟨by rw [hV2]; exact ⟨by simp [go_sem], by simp [go_sem]⟩, by rw [hV2]; exact ⟨by simp [go_sem], by simp [go_sem]⟩, (unhide HQ).1.later hb2, (unhide HQ).2.later hb2⟩
    have HN2 : Hid (some w1.heap.size ≠ v5.ownBlock ∧ some (w1.heap.size + 1) ≠ v5.ownBlock) := ⟨fun e => by have := ((unhide HT1).own.lt _ e.symm).2; omega, fun e => by have := ((unhide HT1).own.lt _ e.symm).2; omega⟩
    rw [← hV2]
    have HS1b := HS1
    clear hV2 hb2 HS HT HS1 HT1 HQ
    obtain ⟨g6, hg6⟩ : ∃ g6, g6 = w1.heap.size := ⟨_, rfl⟩
    obtain ⟨g7, hg7⟩ : ∃ g7, g7 = w1.heap.size + 1 := ⟨_, rfl⟩
    have HGG : Hid (w.heap.size + 1 < g7) := by have h1 := (unhide HS1b).br.lt; show _ < _; omega
    rw [← hg7, ← hg6] at HQ2 HN2 ⊢
    clear hg6 hg7 HS1b
    have t1 := (unhide HS2).bh.c1; have t2 := (unhide HS2).bh.c2
    go_upto_region 4 with (go_at_call 120; go_must (refine (unhide HDV _ _ _ _ _ (unhide HS2).ic (unhide HS2).id' (unhide HI).hc (unhide HI).ord.d0).mono ?_; rintro e w3 ⟨a8, l8, c8, a9, l9, c9, rfl, hm, ho, hb3⟩; have HS3 := hide ((unhide HS2).later hb3); have HT3 := hide ((unhide HT2).later hb3); have HQ3 : Hid (Box w3 g6 (.slice a6 l6 c6) ∧ Box w3 g7 (.slice a7 l7 c7) ∧ IsBig w3 (.agg #[.slice a6 l6 c6]) (a / b) ∧ IsBig w3 (.agg #[.slice a7 l7 c7]) (a % b)) := ⟨(unhide HQ2).1.later hb3, (unhide HQ2).2.1.later hb3, (unhide HQ2).2.2.1.later hb3, (unhide HQ2).2.2.2.later hb3⟩; have HM := hide (And.intro hm ho); clear hm ho hb3 t1 t2))
    obtain ⟨V4, hV4⟩ : ∃ V4, V4 = (w3.alloc (.cells #[.slice a8 l8 c8] 72)).alloc (.cells #[.slice a9 l9 c9] 72) := ⟨_, rfl⟩
    have hb4 : Below w3.heap.size w3 V4 := by rw [hV4]; exact ((Below.refl _ _).alloc (Nat.le_refl _) _).alloc (by simp) _
    have HS4 := hide ((unhide HS3).later hb4); have HT4 := hide ((unhide HT3).later hb4)
    have HR4 : Hid (RX V4 v5 g6 g7 w3.heap.size (w3.heap.size + 1) (.slice a6 l6 c6) (.slice a7 l7 c7) (.slice a8 l8 c8) (.slice a9 l9 c9) (a / b) (a % b) (c / d) (c % d)) :=
      ⟨(unhide HQ3).1.later hb4, (unhide HQ3).2.1.later hb4, by rw [hV4]; exact ⟨by simp [go_sem], by simp [go_sem]⟩, by rw [hV4]; exact ⟨by simp [go_sem], by simp [go_sem]⟩, (unhide HQ3).2.2.1.later hb4, (unhide HQ3).2.2.2.later hb4, (unhide HM).1.later hb4, (unhide HM).2.later hb4, (unhide HN2).1, (unhide HN2).2, fun e => by have := ((unhide HT3).own.lt _ e.symm).2; omega⟩
    rw [← hV4]
    clear hV4 hb4 HS2 HT2 HS3 HT3 HQ2 HQ3 HN2 HM
    obtain ⟨g8, hg8⟩ : ∃ g8, g8 = w3.heap.size := ⟨_, rfl⟩
    obtain ⟨g9, hg9⟩ : ∃ g9, g9 = w3.heap.size + 1 := ⟨_, rfl⟩
    rw [← hg9, ← hg8] at HR4 ⊢
    clear hg8 hg9
    have HLN : Hid (vs.length ≤ 1000000) := by show vs.length ≤ 1000000; have h1 := (unhide HI).len; have h2 := (unhide HT4).len; have h3 := unhide HE; omega
    have t7 := (unhide HR4).b7.c
    by_cases hr0 : a % b = 0
    · have hz0 : (a % b == 0) = true := by rw [hr0]; rfl
      go_upto_region 5 with (go_at_call 90; go_must (refine (isZero_any _ _ _ (unhide HR4).i7).mono ?_; rintro e w5 ⟨rfl, hb5⟩; have HS5 := hide ((unhide HS4).later hb5); have HT5 := hide ((unhide HT4).later hb5); have HR5 := hide ((unhide HR4).later hb5); clear hb5 t7; rw [hz0]))
      have t6 := (unhide HR5).b6.c
      go_upto_region 10 with (at_builtin; go_must (refine wpList_appendN rfl _ _ rfl (w.heap.size + 3) _ vs rfl ((unhide HT5).own.later (al_below _ _)) ⟨w5.heap.size, 0, none⟩ 1 (.slice a6 l6 c6) rfl (al_one _ _) rfl (sl_no _ _ _) (unhide HLN) (by have := (unhide HS5).br.lt; simp; omega) rfl ?_; intro v6 w6 hap; have HAP := hide hap; clear hap))
      have HS6 : Hid (SB w w6 (.slice a1 l1 c1) (.slice a2 l2 c2) (.slice a3 l3 c3) (.slice a4 l4 c4) a b c d) := ((unhide HS5).later (al_below _ _)).app ((unhide HT5).own.later (al_below _ _)) (unhide HAP) rfl
      have HT6a : Hid (TR w6 (w.heap.size + 3) v6 (vs ++ [.slice a6 l6 c6]) (pre ++ [a / b])) := ((unhide HT5).later (al_below _ _)).push (unhide HAP) ((unhide HR5).i6.later (al_below _ _))
      obtain ⟨vs2, hvs2⟩ : ∃ vs2, vs2 = vs ++ [.slice a6 l6 c6] := ⟨_, rfl⟩
      obtain ⟨ts2, hts2⟩ : ∃ ts2, ts2 = pre ++ [a / b] := ⟨_, rfl⟩
      have HCF : Hid (Cub.CF A B C D ts2) := by rw [hts2]; exact (unhide HI).cf _ (.whole hr0)
      have HTL0 : Hid (0 < vs2.length ∧ vs2.length = ts2.length ∧ vs2.length ≤ 1000001) := by
        have h1 := (unhide HT6a).len; have h2 := unhide HLN
        rw [← hvs2, ← hts2] at h1
        have h3 : vs2.length = vs.length + 1 := by rw [hvs2]; simp
        exact ⟨by omega, h1, by omega⟩
      have HT6 := HT6a
      rw [← hvs2, ← hts2] at HT6
      have HQ2 : Hid (∀ (W : World) {s1 s2 : Value}, IsBig W (.agg #[s1]) (Cub.pr ts2.tail).2 → IsBig W (.agg #[s2]) (Cub.pr ts2.tail).1 → QOf W (.agg #[.bool false, s1, s2]) (Cub.valQ false (Cub.pr ts2.tail).2 (Cub.pr ts2.tail).1) 67) := by
        obtain ⟨k1, k2, k3, k4, k5⟩ := (unhide HCF).bound (unhide HO)
        rw [Cub.pr_tail (unhide HCF).ne] at k3 k5
        have k6 := Nat.lt_of_lt_of_le (Nat.lt_of_le_of_lt k3 (unhide HB4).2.1) (unhide HP6)
        have k7 : (Cub.pr ts2.tail).2 < 1000000000 ^ 67 := by
          have h0 := Cub.un_le ts2.tail ((unhide HCF).tail_pos (unhide HO))
          have h9 := Cub.un_val ts2.tail
          rw [h9.1, h9.2] at h0
          exact Nat.lt_of_le_of_lt h0.1 k6
        intro W s1 s2 h1 h2
        exact pair_q h1 h2 k5 (by rw [Nat.gcd_comm]; exact Cub.pr_gcd _) k7 k6
      have HFN : Hid (∀ (W : World) (rb : Bool) (rn rd : Nat) (s1 s2 : Value), IsBig W (.agg #[s1]) rn → IsBig W (.agg #[s2]) rd → Cub.Low rb rn rd → Cub.valQ rb rn rd = Cub.valQ false (ts2[0]'(List.length_pos_iff.2 (unhide HCF).ne)) 1 + Cub.valQ false (Cub.pr ts2.tail).2 (Cub.pr ts2.tail).1 → QOf W (.agg #[.bool rb, s1, s2]) (Cub.valQ false (Cub.pr ts2).1 (Cub.pr ts2).2) 67) := by
        obtain ⟨k1, k2, k3, k4, k5⟩ := (unhide HCF).bound (unhide HO)
        have hh := Cub.pr_head (List.length_pos_iff.2 (unhide HCF).ne)
        have k8 := Nat.lt_of_lt_of_le (Nat.lt_of_le_of_lt k1 (unhide HB4).1) (unhide HP6)
        have k9 := Nat.lt_of_lt_of_le (Nat.lt_of_le_of_lt k3 (unhide HB4).2.1) (unhide HP6)
        rw [hh] at k8 ⊢
        rw [Cub.pr_tail (unhide HCF).ne] at k9 k5 ⊢
        intro W rb rn rd s1 s2 h1 h2 h3 h4
        exact sum_q h1 h2 h3 h4 k5 (by rw [Nat.gcd_comm]; exact Cub.pr_gcd _) k8 k9
      clear hvs2 hts2 HT6a HAP
      clear HS4 HT4 HR4 HS5 HT5 HR5 t6 HI HZ hz0 hr0
      have HTL : Hid (0 < vs2.length ∧ vs2.length = ts2.length ∧ vs2.length ≤ 1000001) := unhide HTL0
      obtain ⟨g, cap, rfl, hcl, hcm, hc0⟩ := (unhide HT6).own.cells 0 (unhide HTL).1
      have HCM : Hid (cap ≤ 9223372036854775807) := hcm
      clear hcm
      have hl0 : 0 < vs2.length := (unhide HTL).1
      have hl1 : (1 : Int) ≤ (vs2.length : Int) := by omega
      have hl1' : (0 : Int) < (vs2.length : Int) := by omega
      have hl2 : (vs2.length : Int) ≤ (cap : Int) := by omega
      obtain ⟨⟨a0, l0, c0, hx0⟩, hi0⟩ := (unhide HT6).big 0 hl0 (by have := (unhide HTL).2.1; omega)
      rw [hx0] at hc0 hi0
      have HX0 := hide (And.intro hc0 hi0)
      clear hc0 hi0 hx0
      obtain ⟨t0, ht0⟩ : ∃ t0, t0 = ts2[0]'(by have := (unhide HTL).2.1; omega) := ⟨_, rfl⟩
      rw [← ht0] at HX0 HFN
      have HPR : Hid ((Cub.pr ts2).1 = t0 * (Cub.pr ts2.tail).1 + (Cub.pr ts2.tail).2 ∧ (Cub.pr ts2).2 = (Cub.pr ts2.tail).1) := by
        rw [ht0]; exact ⟨Cub.pr_head _, Cub.pr_tail (unhide HCF).ne⟩
      have HTS : Hid (t0 < 1000000000 ^ 67) := Nat.lt_of_lt_of_le ((unhide HCF).small (unhide HO) (unhide HB4).1 (unhide HB4).2.1 (unhide HB4).2.2.1 (unhide HB4).2.2.2 t0 (by rw [ht0]; exact List.getElem_mem _)) (unhide HP6)
      clear ht0
      have HHH : Hid (∀ (ad : Option Addr) (n' cap' : Nat), n' = vs2.length - 1 → cap' ≤ cap → n' ≤ cap' → (vs2.length = 1 ∨ ad = some ⟨g, 1, none⟩) → Calls Tryz.prog 124 #[.slice ad n' cap'] w6 fun e w' => ∃ a l c a' l' c', e = .returned (.tuple #[.agg #[.slice a l c], .agg #[.slice a' l' c'], .bool true]) ∧ IsBig w' (.agg #[.slice a l c]) (Cub.pr ts2.tail).2 ∧ IsBig w' (.agg #[.slice a' l' c']) (Cub.pr ts2.tail).1 ∧ Below w6.heap.size w6 w') := fun ad n' cap' h0 h1 h2 h3 => unfold_tail (unhide HT6) (unhide HCF) (unhide HO) (unhide HE) (unhide HP6) (unhide HB4) ad n' cap' h0 h2 (by have := unhide HCM; omega) h3
      by_cases hc1 : cap = 1
      · have HL1 : Hid (vs2.length = 1) := by show _ = _; omega
        subst hc1
        have hl3 : ¬ (1 : Int) < (vs2.length : Int) := by omega
        have HCA : Hid (Calls Tryz.prog 124 #[.slice (some ⟨g, 0, none⟩) 0 0] w6 fun e w' => ∃ a l c a' l' c', e = .returned (.tuple #[.agg #[.slice a l c], .agg #[.slice a' l' c'], .bool true]) ∧ IsBig w' (.agg #[.slice a l c]) (Cub.pr ts2.tail).2 ∧ IsBig w' (.agg #[.slice a' l' c']) (Cub.pr ts2.tail).1 ∧ Below w6.heap.size w6 w') := unhide HHH _ 0 0 (by have := unhide HL1; omega) (by omega) (by omega) (Or.inl (unhide HL1))
        clear HHH HL1
        go_upto_region 11 with (go_at_call 124; go_must (refine (unhide HCA).mono ?_; rintro e w7 ⟨an, ln, cn, ad', ld, cd, rfl, hn, hd, hb7⟩; have HS7 := hide ((unhide HS6).later hb7); have HX7 : Hid (w7.cell? ⟨g, 0, none⟩ = some (.slice a0 l0 c0) ∧ IsBig w7 (.agg #[.slice a0 l0 c0]) t0) := ⟨(hb7.cell (p := ⟨g, 0, none⟩) (World.block_lt_of_cell? _ _ (unhide HX0).1)).trans (unhide HX0).1, (unhide HX0).2.later hb7⟩; have HND := hide (And.intro hn hd); clear hn hd hb7))
        obtain ⟨V8, hV8⟩ : ∃ V8, V8 = (w7.alloc (.cells #[.slice an ln cn] 72)).alloc (.cells #[.slice ad' ld cd] 72) := ⟨_, rfl⟩
        have hb8 : Below w7.heap.size w7 V8 := by rw [hV8]; exact ((Below.refl _ _).alloc (Nat.le_refl _) _).alloc (by simp) _
        have HS8 := hide ((unhide HS7).later hb8)
        have HX8 : Hid (TX V8 g w7.heap.size (w7.heap.size + 1) (.slice a0 l0 c0) (.slice an ln cn) (.slice ad' ld cd) t0 (Cub.pr ts2.tail).2 (Cub.pr ts2.tail).1) :=
          ⟨(hb8.cell (p := ⟨g, 0, none⟩) (World.block_lt_of_cell? _ _ (unhide HX7).1)).trans (unhide HX7).1, by rw [hV8]; exact ⟨by simp [go_sem], by simp [go_sem]⟩, by rw [hV8]; exact ⟨by simp [go_sem], by simp [go_sem]⟩, (unhide HX7).2.later hb8, (unhide HND).1.later hb8, (unhide HND).2.later hb8⟩
        rw [← hV8]
        clear hV8 hb8 HS6 HS7 HX7 HX0 HND HCA HT6
        obtain ⟨gn, hgn⟩ : ∃ gn, gn = w7.heap.size := ⟨_, rfl⟩
        obtain ⟨gd, hgd⟩ : ∃ gd, gd = w7.heap.size + 1 := ⟨_, rfl⟩
        rw [← hgd, ← hgn] at HX8 ⊢
        clear hgn hgd
        have HR0 : Hid (V8.drew.cell? ⟨g, 0, none⟩ = some (.slice a0 l0 c0) ∧ V8.drew.cell? ⟨gn, 0, none⟩ = some (.slice an ln cn) ∧ V8.drew.cell? ⟨gd, 0, none⟩ = some (.slice ad' ld cd)) := ⟨((unhide HX8).later ((Below.refl _ _).drew)).c0, ((unhide HX8).later ((Below.refl _ _).drew)).bn.c, ((unhide HX8).later ((Below.refl _ _).drew)).bd.c⟩
        refine region_reads 9 (fun W => W.cell? ⟨g, 0, none⟩ = some (.slice a0 l0 c0) ∧ W.cell? ⟨gn, 0, none⟩ = some (.slice an ln cn) ∧ W.cell? ⟨gd, 0, none⟩ = some (.slice ad' ld cd)) (fun _ => True) 10 rfl (by kernel_rfl) ?_
        refine wpR_take (i := 0) (oi := _) (v := .slice (some ⟨g, 0, none⟩) vs2.length 1) rfl (by kernel_rfl) (by kernel_rfl) (by kernel_rfl) (by kernel_rfl) (fun _ _ _ h => h) (Or.inl ⟨by rfl, ?_⟩) ⟨unhide HR0, trivial⟩ ?_
        · intro W hW
          go_split_ands
          go_simp
        refine wpR_take (i := 1) (oi := _) (v := .pointer (some ⟨g, 0, none⟩)) rfl (by kernel_rfl) (by kernel_rfl) (by kernel_rfl) (by kernel_rfl) (fun _ _ _ h => h) (Or.inl ⟨by rfl, ?_⟩) ⟨unhide HR0, trivial⟩ ?_
        · intro W hW
          go_split_ands
          go_simp
        refine wpR_take (i := 2) (oi := _) (v := .agg #[.slice a0 l0 c0]) rfl (by kernel_rfl) (by kernel_rfl) (by kernel_rfl) (by kernel_rfl) (fun _ _ _ h => h) (Or.inl ⟨by rfl, ?_⟩) ⟨unhide HR0, trivial⟩ ?_
        · intro W hW
          go_split_ands
          go_simp
        refine wpR_take (i := 5) (oi := _) (v := .agg #[.slice an ln cn]) rfl (by kernel_rfl) (by kernel_rfl) (by kernel_rfl) (by kernel_rfl) (fun _ _ _ h => h) (Or.inl ⟨by rfl, ?_⟩) ⟨unhide HR0, trivial⟩ ?_
        · intro W hW
          go_split_ands
          go_simp
        refine wpR_take (i := 6) (oi := _) (v := .agg #[.slice ad' ld cd]) rfl (by kernel_rfl) (by kernel_rfl) (by kernel_rfl) (by kernel_rfl) (fun _ _ _ h => h) (Or.inl ⟨by rfl, ?_⟩) ⟨unhide HR0, trivial⟩ ?_
        · intro W hW
          go_split_ands
          go_simp
        refine wpR_take (i := 7) (oi := _) (v := .agg #[.bool false, .slice an ln cn, .slice ad' ld cd]) rfl (by kernel_rfl) (by kernel_rfl) (by kernel_rfl) (by kernel_rfl) (fun _ _ _ h => h) (Or.inl ⟨by rfl, ?_⟩) ⟨unhide HR0, trivial⟩ ?_
        · intro W hW
          go_split_ands
          go_simp
        refine wpR_op (i := 3) (o := _) (by kernel_rfl) rfl rfl (fun K hK => ?_)
        go_simp
        refine (unhide HBO _).mono ?_
        rintro e w9 ⟨ao, lo, co, rfl, ho1, hb9⟩
        have HB9 := hide ((Below.refl V8.heap.size V8).drew.trans hb9); have HO1 := hide ho1; clear ho1 hb9; have HR9 : Hid (w9.cell? ⟨g, 0, none⟩ = some (.slice a0 l0 c0) ∧ w9.cell? ⟨gn, 0, none⟩ = some (.slice an ln cn) ∧ w9.cell? ⟨gd, 0, none⟩ = some (.slice ad' ld cd)) := ⟨((unhide HX8).later (unhide HB9)).c0, ((unhide HX8).later (unhide HB9)).bn.c, ((unhide HX8).later (unhide HB9)).bd.c⟩
        refine hK _ _ ⟨unhide HR9, trivial⟩ ?_
        clear hK K
        refine wpR_take (i := 4) (oi := _) (v := .agg #[.bool false, .slice a0 l0 c0, .slice ao lo co]) rfl (by kernel_rfl) (by kernel_rfl) (by kernel_rfl) (by kernel_rfl) (fun _ _ _ h => h) (Or.inl ⟨by rfl, ?_⟩) ⟨unhide HR9, trivial⟩ ?_
        · intro W hW
          go_split_ands
          go_simp
        refine wpR_op (i := 8) (o := _) (by kernel_rfl) rfl rfl (fun K hK => ?_)
        go_simp
        refine (qadd _ _ (Cub.valQ false t0 1) (Cub.valQ false (Cub.pr ts2.tail).2 (Cub.pr ts2.tail).1) 67 _ ⟨false, t0, 1, ⟨_, _, rfl, ((unhide HX8).later (unhide HB9)).ix, unhide HO1⟩, ⟨by decide, Nat.gcd_one_right _, fun h => by cases h⟩, rfl, unhide HTS, Nat.one_lt_pow (by decide) (by decide)⟩ (unhide HQ2 _ ((unhide HX8).later (unhide HB9)).in' ((unhide HX8).later (unhide HB9)).id')  (by decide)).mono ?_
        rintro e w10 ⟨vr, rfl, hqr, hb10⟩
        have HB10 := hide ((unhide HB9).trans (hb10.mono (unhide HB9).size)); obtain ⟨rb, rn, rd, ⟨s1, s2, rfl, q1, q2⟩, q3, q4, q5, q6⟩ := hqr; obtain ⟨k1, k2, k3, e1⟩ := q1.shape; obtain ⟨k4, k5, k6, e2⟩ := q2.shape; simp only [Value.agg.injEq, Array.mk.injEq, List.cons.injEq, and_true] at e1 e2; subst e1; subst e2; have HQR := hide (And.intro q1 (And.intro q2 (And.intro q3 q4))); clear q1 q2 q3 q4 q5 q6 hb10; have HR10 : Hid (w10.cell? ⟨g, 0, none⟩ = some (.slice a0 l0 c0) ∧ w10.cell? ⟨gn, 0, none⟩ = some (.slice an ln cn) ∧ w10.cell? ⟨gd, 0, none⟩ = some (.slice ad' ld cd)) := ⟨((unhide HX8).later (unhide HB10)).c0, ((unhide HX8).later (unhide HB10)).bn.c, ((unhide HX8).later (unhide HB10)).bd.c⟩
        refine hK _ _ ⟨unhide HR10, trivial⟩ ?_
        clear hK K
        have HS10 := hide ((unhide HS8).later (unhide HB10))
        have y0 := (unhide HS10).br.c0; have y1 := (unhide HS10).br.c1; have y2 := (unhide HS10).br.c2; have yf0 := (unhide HS10).br.f0; have yf1 := (unhide HS10).br.f1; have yf2 := (unhide HS10).br.f2
        refine wpR_late (i := 9) (o := _) (by kernel_rfl) rfl rfl (by kernel_rfl) (fun K hK => ?_)
        go_simp
        refine hK _ _ trivial ?_
        clear hK K
        refine wpR_done (by kernel_rfl) ?_
        go_wp2
        try rw [Exit.noGoto_ret]
        have hS := (unhide HS10).br.store (.bool rb) (.slice k1 k2 k3) (.slice k4 k5 k6)
        have hbw : Below w.heap.size w (store3 w10 (w.heap.size + 1 + 1) (.bool rb) (.slice k1 k2 k3) (.slice k4 k5 k6)) := below_store3 (unhide HS10).below (by omega) _ _ _
        have z0 := hS.c0; have z1 := hS.c1; have z2 := hS.c2
        have hq1 := (unhide HS10).br.big (.bool rb) (.slice k1 k2 k3) (.slice k4 k5 k6) (unhide HQR).1
        have hq2 := (unhide HS10).br.big (.bool rb) (.slice k1 k2 k3) (.slice k4 k5 k6) (unhide HQR).2.1
        exact bodyPost_ret (v := .agg #[.bool rb, .slice k1 k2 k3, .slice k4 k5 k6]) (w := store3 w10 (w.heap.size + 1 + 1) (.bool rb) (.slice k1 k2 k3) (.slice k4 k5 k6)) (by simp [results, Tryz.results118, go_sem, z0, z1, z2]) rfl ⟨_, ts2, rfl, unhide HCF, unhide HFN _ rb rn rd _ _ hq1 hq2 (unhide HQR).2.2.1 (unhide HQR).2.2.2, hbw⟩
      · have HCA : Hid (Calls Tryz.prog 124 #[.slice (some ⟨g, 1, none⟩) (vs2.length - 1) (cap - 1)] w6 fun e w' => ∃ a l c a' l' c', e = .returned (.tuple #[.agg #[.slice a l c], .agg #[.slice a' l' c'], .bool true]) ∧ IsBig w' (.agg #[.slice a l c]) (Cub.pr ts2.tail).2 ∧ IsBig w' (.agg #[.slice a' l' c']) (Cub.pr ts2.tail).1 ∧ Below w6.heap.size w6 w') := unhide HHH _ _ _ rfl (by omega) (by omega) (Or.inr rfl)
        clear HHH
        go_upto_region 11 with (go_at_call 124; go_must (refine (unhide HCA).mono ?_; rintro e w7 ⟨an, ln, cn, ad', ld, cd, rfl, hn, hd, hb7⟩; have HS7 := hide ((unhide HS6).later hb7); have HX7 : Hid (w7.cell? ⟨g, 0, none⟩ = some (.slice a0 l0 c0) ∧ IsBig w7 (.agg #[.slice a0 l0 c0]) t0) := ⟨(hb7.cell (p := ⟨g, 0, none⟩) (World.block_lt_of_cell? _ _ (unhide HX0).1)).trans (unhide HX0).1, (unhide HX0).2.later hb7⟩; have HND := hide (And.intro hn hd); clear hn hd hb7))
        obtain ⟨V8, hV8⟩ : ∃ V8, V8 = (w7.alloc (.cells #[.slice an ln cn] 72)).alloc (.cells #[.slice ad' ld cd] 72) := ⟨_, rfl⟩
        have hb8 : Below w7.heap.size w7 V8 := by rw [hV8]; exact ((Below.refl _ _).alloc (Nat.le_refl _) _).alloc (by simp) _
        have HS8 := hide ((unhide HS7).later hb8)
        have HX8 : Hid (TX V8 g w7.heap.size (w7.heap.size + 1) (.slice a0 l0 c0) (.slice an ln cn) (.slice ad' ld cd) t0 (Cub.pr ts2.tail).2 (Cub.pr ts2.tail).1) :=
          ⟨(hb8.cell (p := ⟨g, 0, none⟩) (World.block_lt_of_cell? _ _ (unhide HX7).1)).trans (unhide HX7).1, by rw [hV8]; exact ⟨by simp [go_sem], by simp [go_sem]⟩, by rw [hV8]; exact ⟨by simp [go_sem], by simp [go_sem]⟩, (unhide HX7).2.later hb8, (unhide HND).1.later hb8, (unhide HND).2.later hb8⟩
        rw [← hV8]
        clear hV8 hb8 HS6 HS7 HX7 HX0 HND HCA HT6
        obtain ⟨gn, hgn⟩ : ∃ gn, gn = w7.heap.size := ⟨_, rfl⟩
        obtain ⟨gd, hgd⟩ : ∃ gd, gd = w7.heap.size + 1 := ⟨_, rfl⟩
        rw [← hgd, ← hgn] at HX8 ⊢
        clear hgn hgd
        have HR0 : Hid (V8.drew.cell? ⟨g, 0, none⟩ = some (.slice a0 l0 c0) ∧ V8.drew.cell? ⟨gn, 0, none⟩ = some (.slice an ln cn) ∧ V8.drew.cell? ⟨gd, 0, none⟩ = some (.slice ad' ld cd)) := ⟨((unhide HX8).later ((Below.refl _ _).drew)).c0, ((unhide HX8).later ((Below.refl _ _).drew)).bn.c, ((unhide HX8).later ((Below.refl _ _).drew)).bd.c⟩
        refine region_reads 9 (fun W => W.cell? ⟨g, 0, none⟩ = some (.slice a0 l0 c0) ∧ W.cell? ⟨gn, 0, none⟩ = some (.slice an ln cn) ∧ W.cell? ⟨gd, 0, none⟩ = some (.slice ad' ld cd)) (fun _ => True) 10 rfl (by kernel_rfl) ?_
        refine wpR_take (i := 0) (oi := _) (v := .slice (some ⟨g, 0, none⟩) vs2.length cap) rfl (by kernel_rfl) (by kernel_rfl) (by kernel_rfl) (by kernel_rfl) (fun _ _ _ h => h) (Or.inl ⟨by rfl, ?_⟩) ⟨unhide HR0, trivial⟩ ?_
        · intro W hW
          go_split_ands
          go_simp
        refine wpR_take (i := 1) (oi := _) (v := .pointer (some ⟨g, 0, none⟩)) rfl (by kernel_rfl) (by kernel_rfl) (by kernel_rfl) (by kernel_rfl) (fun _ _ _ h => h) (Or.inl ⟨by rfl, ?_⟩) ⟨unhide HR0, trivial⟩ ?_
        · intro W hW
          go_split_ands
          go_simp
        refine wpR_take (i := 2) (oi := _) (v := .agg #[.slice a0 l0 c0]) rfl (by kernel_rfl) (by kernel_rfl) (by kernel_rfl) (by kernel_rfl) (fun _ _ _ h => h) (Or.inl ⟨by rfl, ?_⟩) ⟨unhide HR0, trivial⟩ ?_
        · intro W hW
          go_split_ands
          go_simp
        refine wpR_take (i := 5) (oi := _) (v := .agg #[.slice an ln cn]) rfl (by kernel_rfl) (by kernel_rfl) (by kernel_rfl) (by kernel_rfl) (fun _ _ _ h => h) (Or.inl ⟨by rfl, ?_⟩) ⟨unhide HR0, trivial⟩ ?_
        · intro W hW
          go_split_ands
          go_simp
        refine wpR_take (i := 6) (oi := _) (v := .agg #[.slice ad' ld cd]) rfl (by kernel_rfl) (by kernel_rfl) (by kernel_rfl) (by kernel_rfl) (fun _ _ _ h => h) (Or.inl ⟨by rfl, ?_⟩) ⟨unhide HR0, trivial⟩ ?_
        · intro W hW
          go_split_ands
          go_simp
        refine wpR_take (i := 7) (oi := _) (v := .agg #[.bool false, .slice an ln cn, .slice ad' ld cd]) rfl (by kernel_rfl) (by kernel_rfl) (by kernel_rfl) (by kernel_rfl) (fun _ _ _ h => h) (Or.inl ⟨by rfl, ?_⟩) ⟨unhide HR0, trivial⟩ ?_
        · intro W hW
          go_split_ands
          go_simp
        refine wpR_op (i := 3) (o := _) (by kernel_rfl) rfl rfl (fun K hK => ?_)
        go_simp
        refine (unhide HBO _).mono ?_
        rintro e w9 ⟨ao, lo, co, rfl, ho1, hb9⟩
        have HB9 := hide ((Below.refl V8.heap.size V8).drew.trans hb9); have HO1 := hide ho1; clear ho1 hb9; have HR9 : Hid (w9.cell? ⟨g, 0, none⟩ = some (.slice a0 l0 c0) ∧ w9.cell? ⟨gn, 0, none⟩ = some (.slice an ln cn) ∧ w9.cell? ⟨gd, 0, none⟩ = some (.slice ad' ld cd)) := ⟨((unhide HX8).later (unhide HB9)).c0, ((unhide HX8).later (unhide HB9)).bn.c, ((unhide HX8).later (unhide HB9)).bd.c⟩
        refine hK _ _ ⟨unhide HR9, trivial⟩ ?_
        clear hK K
        refine wpR_take (i := 4) (oi := _) (v := .agg #[.bool false, .slice a0 l0 c0, .slice ao lo co]) rfl (by kernel_rfl) (by kernel_rfl) (by kernel_rfl) (by kernel_rfl) (fun _ _ _ h => h) (Or.inl ⟨by rfl, ?_⟩) ⟨unhide HR9, trivial⟩ ?_
        · intro W hW
          go_split_ands
          go_simp
        refine wpR_op (i := 8) (o := _) (by kernel_rfl) rfl rfl (fun K hK => ?_)
        go_simp
        refine (qadd _ _ (Cub.valQ false t0 1) (Cub.valQ false (Cub.pr ts2.tail).2 (Cub.pr ts2.tail).1) 67 _ ⟨false, t0, 1, ⟨_, _, rfl, ((unhide HX8).later (unhide HB9)).ix, unhide HO1⟩, ⟨by decide, Nat.gcd_one_right _, fun h => by cases h⟩, rfl, unhide HTS, Nat.one_lt_pow (by decide) (by decide)⟩ (unhide HQ2 _ ((unhide HX8).later (unhide HB9)).in' ((unhide HX8).later (unhide HB9)).id')  (by decide)).mono ?_
        rintro e w10 ⟨vr, rfl, hqr, hb10⟩
        have HB10 := hide ((unhide HB9).trans (hb10.mono (unhide HB9).size)); obtain ⟨rb, rn, rd, ⟨s1, s2, rfl, q1, q2⟩, q3, q4, q5, q6⟩ := hqr; obtain ⟨k1, k2, k3, e1⟩ := q1.shape; obtain ⟨k4, k5, k6, e2⟩ := q2.shape; simp only [Value.agg.injEq, Array.mk.injEq, List.cons.injEq, and_true] at e1 e2; subst e1; subst e2; have HQR := hide (And.intro q1 (And.intro q2 (And.intro q3 q4))); clear q1 q2 q3 q4 q5 q6 hb10; have HR10 : Hid (w10.cell? ⟨g, 0, none⟩ = some (.slice a0 l0 c0) ∧ w10.cell? ⟨gn, 0, none⟩ = some (.slice an ln cn) ∧ w10.cell? ⟨gd, 0, none⟩ = some (.slice ad' ld cd)) := ⟨((unhide HX8).later (unhide HB10)).c0, ((unhide HX8).later (unhide HB10)).bn.c, ((unhide HX8).later (unhide HB10)).bd.c⟩
        refine hK _ _ ⟨unhide HR10, trivial⟩ ?_
        clear hK K
        have HS10 := hide ((unhide HS8).later (unhide HB10))
        have y0 := (unhide HS10).br.c0; have y1 := (unhide HS10).br.c1; have y2 := (unhide HS10).br.c2; have yf0 := (unhide HS10).br.f0; have yf1 := (unhide HS10).br.f1; have yf2 := (unhide HS10).br.f2
        refine wpR_late (i := 9) (o := _) (by kernel_rfl) rfl rfl (by kernel_rfl) (fun K hK => ?_)
        go_simp
        refine hK _ _ trivial ?_
        clear hK K
        refine wpR_done (by kernel_rfl) ?_
        go_wp2
        try rw [Exit.noGoto_ret]
        have hS := (unhide HS10).br.store (.bool rb) (.slice k1 k2 k3) (.slice k4 k5 k6)
        have hbw : Below w.heap.size w (store3 w10 (w.heap.size + 1 + 1) (.bool rb) (.slice k1 k2 k3) (.slice k4 k5 k6)) := below_store3 (unhide HS10).below (by omega) _ _ _
        have z0 := hS.c0; have z1 := hS.c1; have z2 := hS.c2
        have hq1 := (unhide HS10).br.big (.bool rb) (.slice k1 k2 k3) (.slice k4 k5 k6) (unhide HQR).1
        have hq2 := (unhide HS10).br.big (.bool rb) (.slice k1 k2 k3) (.slice k4 k5 k6) (unhide HQR).2.1
        exact bodyPost_ret (v := .agg #[.bool rb, .slice k1 k2 k3, .slice k4 k5 k6]) (w := store3 w10 (w.heap.size + 1 + 1) (.bool rb) (.slice k1 k2 k3) (.slice k4 k5 k6)) (by simp [results, Tryz.results118, go_sem, z0, z1, z2]) rfl ⟨_, ts2, rfl, unhide HCF, unhide HFN _ rb rn rd _ _ hq1 hq2 (unhide HQR).2.2.1 (unhide HQR).2.2.2, hbw⟩
    · have hz0 : (a % b == 0) = false := beq_eq_false_iff_ne.2 hr0
      go_upto_region 6 with (go_at_call 90; go_must (refine (isZero_any _ _ _ (unhide HR4).i7).mono ?_; rintro e w5 ⟨rfl, hb5⟩; have HS5 := hide ((unhide HS4).later hb5); have HT5 := hide ((unhide HT4).later hb5); have HR5 := hide ((unhide HR4).later hb5); clear hb5 t7; rw [hz0]))
      have t6 := (unhide HR5).b6.c; have t8 := (unhide HR5).b8.c
      by_cases hlt : a / b < c / d
      · have hcn : (Cub.cmpN (a / b) (c / d)) < 0 := by unfold Cub.cmpN; rw [if_pos hlt]; decide
        obtain ⟨kk, hkk⟩ : ∃ kk, kk = Cub.cmpN (a / b) (c / d) := ⟨_, rfl⟩
        have H141 := hide (fun W h1 h2 => cmp_any (.agg #[.slice a6 l6 c6]) (.agg #[.slice a8 l8 c8]) (a / b) (c / d) W h1 h2)
        rw [← hkk] at H141 hcn
        clear hkk
        go_upto_region 7 with (go_at_call 143; go_must (refine (unhide H141 _ (unhide HR5).i6 (unhide HR5).i8).mono ?_; rintro e wl ⟨rfl, hbl⟩; have HSl := hide ((unhide HS5).later hbl); have HTl := hide ((unhide HT5).later hbl); have HRl := hide ((unhide HR5).later hbl); clear hbl t6 t8))
        have HSS : Hid (wl.drew.cell? ⟨g6, 0, none⟩ = some (.slice a6 l6 c6)) := ((unhide HRl).later (Below.refl _ _).drew).b6.c
        have HQB : Hid (a / b < 1000000000 ^ 67 ∧ 1 < 1000000000 ^ 67) := ⟨Nat.lt_of_lt_of_le (Nat.lt_of_le_of_lt (Nat.div_le_self a b) (unhide HI).ha) (unhide HP6), Nat.one_lt_pow (by decide) (by decide)⟩
        refine region_reads 100 (fun W => W.cell? ⟨g6, 0, none⟩ = some (.slice a6 l6 c6)) (fun _ => True) 7 rfl (by kernel_rfl) ?_
        refine wpR_take (i := 0) (oi := _) (v := v5) rfl (by kernel_rfl) (by kernel_rfl) (by kernel_rfl) (by kernel_rfl) (fun _ _ _ h => h) (Or.inl ⟨by rfl, ?_⟩) ⟨unhide HSS, trivial⟩ ?_
        · intro W hW
          go_split_ands
          go_simp
        refine wpR_take (i := 1) (oi := _) (v := .agg #[.slice a6 l6 c6]) rfl (by kernel_rfl) (by kernel_rfl) (by kernel_rfl) (by kernel_rfl) (fun _ _ _ h => h) (Or.inl ⟨by rfl, ?_⟩) ⟨unhide HSS, trivial⟩ ?_
        · intro W hW
          go_split_ands
          go_simp
        refine wpR_op (i := 2) (o := _) (by kernel_rfl) rfl rfl (fun K hK => ?_)
        go_simp
        refine (unhide HBO _).mono ?_
        rintro e wm ⟨am, lm, cm, rfl, hm1, hbm⟩
        have HBm := hide ((Below.refl wl.heap.size wl).drew.trans hbm); have HM1 := hide hm1; clear hm1 hbm; have HSm : Hid (wm.cell? ⟨g6, 0, none⟩ = some (.slice a6 l6 c6)) := ((unhide HRl).later (unhide HBm)).b6.c
        refine hK _ _ ⟨unhide HSm, trivial⟩ ?_
        clear hK K
        refine wpR_op (i := 3) (o := _) (by kernel_rfl) rfl rfl (fun K hK => ?_)
        go_simp
        refine (add_any (.agg #[.slice a6 l6 c6]) (.agg #[.slice am lm cm]) (a / b) 1 67 _ ((unhide HRl).later (unhide HBm)).i6 (unhide HM1) (by decide) (unhide HQB).1 (unhide HQB).2).mono ?_
        rintro e w5 ⟨vp, rfl, hp, hbp⟩
        have HB5 := hide ((unhide HBm).trans (hbp.mono (unhide HBm).size)); obtain ⟨ap, lp, cp, rfl⟩ := hp.shape; have HP := hide hp; clear hp hbp; have HS5b := hide ((unhide HSl).later (unhide HB5)); have HT5b := hide ((unhide HTl).later (unhide HB5)); have HR5b := hide ((unhide HRl).later (unhide HB5)); have HSn : Hid (w5.cell? ⟨g6, 0, none⟩ = some (.slice a6 l6 c6)) := (unhide HR5b).b6.c
        refine hK _ _ ⟨unhide HSn, trivial⟩ ?_
        clear hK K
        refine wpR_op (i := 4) (o := _) (by kernel_rfl) rfl rfl (fun K hK => ?_)
        go_simp
        refine hK _ _ ⟨((unhide HR5b).later (al_below _ _)).b6.c, trivial⟩ ?_
        clear hK K
        refine wpR_op (i := 5) (o := _) (by kernel_rfl) rfl rfl (fun K hK => ?_)
        refine wp_appendN _ _ rfl (w.heap.size + 3) _ vs rfl ((unhide HT5b).own.later (al_below _ _)) ⟨w5.heap.size, 0, none⟩ 1 (.slice ap lp cp) rfl (al_one _ _) rfl (sl_no _ _ _) (unhide HLN) (by have := (unhide HS5b).br.lt; simp; omega) rfl ?_
        intro v6 w6 hap
        have HAP := hide hap
        clear hap
        have HR6 : Hid (Box w6 g6 (.slice a6 l6 c6)) := (unhide HAP).boxK ((unhide HR5b).later (al_below _ _)).b6 (unhide HR5b).n6
        refine hK _ _ ⟨(unhide HR6).c, trivial⟩ ?_
        clear hK K
        refine wpR_op (i := 6) (o := _) (by kernel_rfl) rfl rfl (fun K hK => ?_)
        go_simp
        refine hK _ _ ⟨(unhide HR6).c, trivial⟩ ?_
        clear hK K
        refine wpR_done (by kernel_rfl) ?_
        go_upto_region 10 with fail
        have HS6 : Hid (SB w w6 (.slice a1 l1 c1) (.slice a2 l2 c2) (.slice a3 l3 c3) (.slice a4 l4 c4) a b c d) := ((unhide HS5b).later (al_below _ _)).app ((unhide HT5b).own.later (al_below _ _)) (unhide HAP) rfl
        have HT6a : Hid (TR w6 (w.heap.size + 3) v6 (vs ++ [.slice ap lp cp]) (pre ++ [a / b + 1])) := ((unhide HT5b).later (al_below _ _)).push (unhide HAP) ((unhide HP).later (al_below _ _))
        obtain ⟨vs2, hvs2⟩ : ∃ vs2, vs2 = vs ++ [.slice ap lp cp] := ⟨_, rfl⟩
        obtain ⟨ts2, hts2⟩ : ∃ ts2, ts2 = pre ++ [a / b + 1] := ⟨_, rfl⟩
        have HCF : Hid (Cub.CF A B C D ts2) := by rw [hts2]; exact (unhide HI).cf _ (.least hr0 hlt)
        have HTL0 : Hid (0 < vs2.length ∧ vs2.length = ts2.length ∧ vs2.length ≤ 1000001) := by
          have h1 := (unhide HT6a).len; have h2 := unhide HLN
          rw [← hvs2, ← hts2] at h1
          have h3 : vs2.length = vs.length + 1 := by rw [hvs2]; simp
          exact ⟨by omega, h1, by omega⟩
        have HT6 := HT6a
        rw [← hvs2, ← hts2] at HT6
        have HQ2 : Hid (∀ (W : World) {s1 s2 : Value}, IsBig W (.agg #[s1]) (Cub.pr ts2.tail).2 → IsBig W (.agg #[s2]) (Cub.pr ts2.tail).1 → QOf W (.agg #[.bool false, s1, s2]) (Cub.valQ false (Cub.pr ts2.tail).2 (Cub.pr ts2.tail).1) 67) := by
          obtain ⟨k1, k2, k3, k4, k5⟩ := (unhide HCF).bound (unhide HO)
          rw [Cub.pr_tail (unhide HCF).ne] at k3 k5
          have k6 := Nat.lt_of_lt_of_le (Nat.lt_of_le_of_lt k3 (unhide HB4).2.1) (unhide HP6)
          have k7 : (Cub.pr ts2.tail).2 < 1000000000 ^ 67 := by
            have h0 := Cub.un_le ts2.tail ((unhide HCF).tail_pos (unhide HO))
            have h9 := Cub.un_val ts2.tail
            rw [h9.1, h9.2] at h0
            exact Nat.lt_of_le_of_lt h0.1 k6
          intro W s1 s2 h1 h2
          exact pair_q h1 h2 k5 (by rw [Nat.gcd_comm]; exact Cub.pr_gcd _) k7 k6
        have HFN : Hid (∀ (W : World) (rb : Bool) (rn rd : Nat) (s1 s2 : Value), IsBig W (.agg #[s1]) rn → IsBig W (.agg #[s2]) rd → Cub.Low rb rn rd → Cub.valQ rb rn rd = Cub.valQ false (ts2[0]'(List.length_pos_iff.2 (unhide HCF).ne)) 1 + Cub.valQ false (Cub.pr ts2.tail).2 (Cub.pr ts2.tail).1 → QOf W (.agg #[.bool rb, s1, s2]) (Cub.valQ false (Cub.pr ts2).1 (Cub.pr ts2).2) 67) := by
          obtain ⟨k1, k2, k3, k4, k5⟩ := (unhide HCF).bound (unhide HO)
          have hh := Cub.pr_head (List.length_pos_iff.2 (unhide HCF).ne)
          have k8 := Nat.lt_of_lt_of_le (Nat.lt_of_le_of_lt k1 (unhide HB4).1) (unhide HP6)
          have k9 := Nat.lt_of_lt_of_le (Nat.lt_of_le_of_lt k3 (unhide HB4).2.1) (unhide HP6)
          rw [hh] at k8 ⊢
          rw [Cub.pr_tail (unhide HCF).ne] at k9 k5 ⊢
          intro W rb rn rd s1 s2 h1 h2 h3 h4
          exact sum_q h1 h2 h3 h4 k5 (by rw [Nat.gcd_comm]; exact Cub.pr_gcd _) k8 k9
        clear hvs2 hts2 HT6a HAP
        clear HS4 HT4 HR4 HS5 HT5 HR5 HSl HTl HRl HSS HQB HBm HM1 HSm HB5 HP HS5b HT5b HR5b HSn HR6 H141 hcn hlt HI HZ hz0 hr0
        have HTL : Hid (0 < vs2.length ∧ vs2.length = ts2.length ∧ vs2.length ≤ 1000001) := unhide HTL0
        obtain ⟨g, cap, rfl, hcl, hcm, hc0⟩ := (unhide HT6).own.cells 0 (unhide HTL).1
        have HCM : Hid (cap ≤ 9223372036854775807) := hcm
        clear hcm
        have hl0 : 0 < vs2.length := (unhide HTL).1
        have hl1 : (1 : Int) ≤ (vs2.length : Int) := by omega
        have hl1' : (0 : Int) < (vs2.length : Int) := by omega
        have hl2 : (vs2.length : Int) ≤ (cap : Int) := by omega
        obtain ⟨⟨a0, l0, c0, hx0⟩, hi0⟩ := (unhide HT6).big 0 hl0 (by have := (unhide HTL).2.1; omega)
        rw [hx0] at hc0 hi0
        have HX0 := hide (And.intro hc0 hi0)
        clear hc0 hi0 hx0
        obtain ⟨t0, ht0⟩ : ∃ t0, t0 = ts2[0]'(by have := (unhide HTL).2.1; omega) := ⟨_, rfl⟩
        rw [← ht0] at HX0 HFN
        have HPR : Hid ((Cub.pr ts2).1 = t0 * (Cub.pr ts2.tail).1 + (Cub.pr ts2.tail).2 ∧ (Cub.pr ts2).2 = (Cub.pr ts2.tail).1) := by
          rw [ht0]; exact ⟨Cub.pr_head _, Cub.pr_tail (unhide HCF).ne⟩
        have HTS : Hid (t0 < 1000000000 ^ 67) := Nat.lt_of_lt_of_le ((unhide HCF).small (unhide HO) (unhide HB4).1 (unhide HB4).2.1 (unhide HB4).2.2.1 (unhide HB4).2.2.2 t0 (by rw [ht0]; exact List.getElem_mem _)) (unhide HP6)
        clear ht0
        have HHH : Hid (∀ (ad : Option Addr) (n' cap' : Nat), n' = vs2.length - 1 → cap' ≤ cap → n' ≤ cap' → (vs2.length = 1 ∨ ad = some ⟨g, 1, none⟩) → Calls Tryz.prog 124 #[.slice ad n' cap'] w6 fun e w' => ∃ a l c a' l' c', e = .returned (.tuple #[.agg #[.slice a l c], .agg #[.slice a' l' c'], .bool true]) ∧ IsBig w' (.agg #[.slice a l c]) (Cub.pr ts2.tail).2 ∧ IsBig w' (.agg #[.slice a' l' c']) (Cub.pr ts2.tail).1 ∧ Below w6.heap.size w6 w') := fun ad n' cap' h0 h1 h2 h3 => unfold_tail (unhide HT6) (unhide HCF) (unhide HO) (unhide HE) (unhide HP6) (unhide HB4) ad n' cap' h0 h2 (by have := unhide HCM; omega) h3
        by_cases hc1 : cap = 1
        · have HL1 : Hid (vs2.length = 1) := by show _ = _; omega
          subst hc1
          have hl3 : ¬ (1 : Int) < (vs2.length : Int) := by omega
          have HCA : Hid (Calls Tryz.prog 124 #[.slice (some ⟨g, 0, none⟩) 0 0] w6 fun e w' => ∃ a l c a' l' c', e = .returned (.tuple #[.agg #[.slice a l c], .agg #[.slice a' l' c'], .bool true]) ∧ IsBig w' (.agg #[.slice a l c]) (Cub.pr ts2.tail).2 ∧ IsBig w' (.agg #[.slice a' l' c']) (Cub.pr ts2.tail).1 ∧ Below w6.heap.size w6 w') := unhide HHH _ 0 0 (by have := unhide HL1; omega) (by omega) (by omega) (Or.inl (unhide HL1))
          clear HHH HL1
          go_upto_region 11 with (go_at_call 124; go_must (refine (unhide HCA).mono ?_; rintro e w7 ⟨an, ln, cn, ad', ld, cd, rfl, hn, hd, hb7⟩; have HS7 := hide ((unhide HS6).later hb7); have HX7 : Hid (w7.cell? ⟨g, 0, none⟩ = some (.slice a0 l0 c0) ∧ IsBig w7 (.agg #[.slice a0 l0 c0]) t0) := ⟨(hb7.cell (p := ⟨g, 0, none⟩) (World.block_lt_of_cell? _ _ (unhide HX0).1)).trans (unhide HX0).1, (unhide HX0).2.later hb7⟩; have HND := hide (And.intro hn hd); clear hn hd hb7))
          obtain ⟨V8, hV8⟩ : ∃ V8, V8 = (w7.alloc (.cells #[.slice an ln cn] 72)).alloc (.cells #[.slice ad' ld cd] 72) := ⟨_, rfl⟩
          have hb8 : Below w7.heap.size w7 V8 := by rw [hV8]; exact ((Below.refl _ _).alloc (Nat.le_refl _) _).alloc (by simp) _
          have HS8 := hide ((unhide HS7).later hb8)
          have HX8 : Hid (TX V8 g w7.heap.size (w7.heap.size + 1) (.slice a0 l0 c0) (.slice an ln cn) (.slice ad' ld cd) t0 (Cub.pr ts2.tail).2 (Cub.pr ts2.tail).1) :=
            ⟨(hb8.cell (p := ⟨g, 0, none⟩) (World.block_lt_of_cell? _ _ (unhide HX7).1)).trans (unhide HX7).1, by rw [hV8]; exact ⟨by simp [go_sem], by simp [go_sem]⟩, by rw [hV8]; exact ⟨by simp [go_sem], by simp [go_sem]⟩, (unhide HX7).2.later hb8, (unhide HND).1.later hb8, (unhide HND).2.later hb8⟩
          rw [← hV8]
          clear hV8 hb8 HS6 HS7 HX7 HX0 HND HCA HT6
          obtain ⟨gn, hgn⟩ : ∃ gn, gn = w7.heap.size := ⟨_, rfl⟩
          obtain ⟨gd, hgd⟩ : ∃ gd, gd = w7.heap.size + 1 := ⟨_, rfl⟩
          rw [← hgd, ← hgn] at HX8 ⊢
          clear hgn hgd
          have HR0 : Hid (V8.drew.cell? ⟨g, 0, none⟩ = some (.slice a0 l0 c0) ∧ V8.drew.cell? ⟨gn, 0, none⟩ = some (.slice an ln cn) ∧ V8.drew.cell? ⟨gd, 0, none⟩ = some (.slice ad' ld cd)) := ⟨((unhide HX8).later ((Below.refl _ _).drew)).c0, ((unhide HX8).later ((Below.refl _ _).drew)).bn.c, ((unhide HX8).later ((Below.refl _ _).drew)).bd.c⟩
          refine region_reads 9 (fun W => W.cell? ⟨g, 0, none⟩ = some (.slice a0 l0 c0) ∧ W.cell? ⟨gn, 0, none⟩ = some (.slice an ln cn) ∧ W.cell? ⟨gd, 0, none⟩ = some (.slice ad' ld cd)) (fun _ => True) 10 rfl (by kernel_rfl) ?_
          refine wpR_take (i := 0) (oi := _) (v := .slice (some ⟨g, 0, none⟩) vs2.length 1) rfl (by kernel_rfl) (by kernel_rfl) (by kernel_rfl) (by kernel_rfl) (fun _ _ _ h => h) (Or.inl ⟨by rfl, ?_⟩) ⟨unhide HR0, trivial⟩ ?_
          · intro W hW
            go_split_ands
            go_simp
          refine wpR_take (i := 1) (oi := _) (v := .pointer (some ⟨g, 0, none⟩)) rfl (by kernel_rfl) (by kernel_rfl) (by kernel_rfl) (by kernel_rfl) (fun _ _ _ h => h) (Or.inl ⟨by rfl, ?_⟩) ⟨unhide HR0, trivial⟩ ?_
          · intro W hW
            go_split_ands
            go_simp
          refine wpR_take (i := 2) (oi := _) (v := .agg #[.slice a0 l0 c0]) rfl (by kernel_rfl) (by kernel_rfl) (by kernel_rfl) (by kernel_rfl) (fun _ _ _ h => h) (Or.inl ⟨by rfl, ?_⟩) ⟨unhide HR0, trivial⟩ ?_
          · intro W hW
            go_split_ands
            go_simp
          refine wpR_take (i := 5) (oi := _) (v := .agg #[.slice an ln cn]) rfl (by kernel_rfl) (by kernel_rfl) (by kernel_rfl) (by kernel_rfl) (fun _ _ _ h => h) (Or.inl ⟨by rfl, ?_⟩) ⟨unhide HR0, trivial⟩ ?_
          · intro W hW
            go_split_ands
            go_simp
          refine wpR_take (i := 6) (oi := _) (v := .agg #[.slice ad' ld cd]) rfl (by kernel_rfl) (by kernel_rfl) (by kernel_rfl) (by kernel_rfl) (fun _ _ _ h => h) (Or.inl ⟨by rfl, ?_⟩) ⟨unhide HR0, trivial⟩ ?_
          · intro W hW
            go_split_ands
            go_simp
          refine wpR_take (i := 7) (oi := _) (v := .agg #[.bool false, .slice an ln cn, .slice ad' ld cd]) rfl (by kernel_rfl) (by kernel_rfl) (by kernel_rfl) (by kernel_rfl) (fun _ _ _ h => h) (Or.inl ⟨by rfl, ?_⟩) ⟨unhide HR0, trivial⟩ ?_
          · intro W hW
            go_split_ands
            go_simp
          refine wpR_op (i := 3) (o := _) (by kernel_rfl) rfl rfl (fun K hK => ?_)
          go_simp
          refine (unhide HBO _).mono ?_
          rintro e w9 ⟨ao, lo, co, rfl, ho1, hb9⟩
          have HB9 := hide ((Below.refl V8.heap.size V8).drew.trans hb9); have HO1 := hide ho1; clear ho1 hb9; have HR9 : Hid (w9.cell? ⟨g, 0, none⟩ = some (.slice a0 l0 c0) ∧ w9.cell? ⟨gn, 0, none⟩ = some (.slice an ln cn) ∧ w9.cell? ⟨gd, 0, none⟩ = some (.slice ad' ld cd)) := ⟨((unhide HX8).later (unhide HB9)).c0, ((unhide HX8).later (unhide HB9)).bn.c, ((unhide HX8).later (unhide HB9)).bd.c⟩
          refine hK _ _ ⟨unhide HR9, trivial⟩ ?_
          clear hK K
          refine wpR_take (i := 4) (oi := _) (v := .agg #[.bool false, .slice a0 l0 c0, .slice ao lo co]) rfl (by kernel_rfl) (by kernel_rfl) (by kernel_rfl) (by kernel_rfl) (fun _ _ _ h => h) (Or.inl ⟨by rfl, ?_⟩) ⟨unhide HR9, trivial⟩ ?_
          · intro W hW
            go_split_ands
            go_simp
          refine wpR_op (i := 8) (o := _) (by kernel_rfl) rfl rfl (fun K hK => ?_)
          go_simp
          refine (qadd _ _ (Cub.valQ false t0 1) (Cub.valQ false (Cub.pr ts2.tail).2 (Cub.pr ts2.tail).1) 67 _ ⟨false, t0, 1, ⟨_, _, rfl, ((unhide HX8).later (unhide HB9)).ix, unhide HO1⟩, ⟨by decide, Nat.gcd_one_right _, fun h => by cases h⟩, rfl, unhide HTS, Nat.one_lt_pow (by decide) (by decide)⟩ (unhide HQ2 _ ((unhide HX8).later (unhide HB9)).in' ((unhide HX8).later (unhide HB9)).id')  (by decide)).mono ?_
          rintro e w10 ⟨vr, rfl, hqr, hb10⟩
          have HB10 := hide ((unhide HB9).trans (hb10.mono (unhide HB9).size)); obtain ⟨rb, rn, rd, ⟨s1, s2, rfl, q1, q2⟩, q3, q4, q5, q6⟩ := hqr; obtain ⟨k1, k2, k3, e1⟩ := q1.shape; obtain ⟨k4, k5, k6, e2⟩ := q2.shape; simp only [Value.agg.injEq, Array.mk.injEq, List.cons.injEq, and_true] at e1 e2; subst e1; subst e2; have HQR := hide (And.intro q1 (And.intro q2 (And.intro q3 q4))); clear q1 q2 q3 q4 q5 q6 hb10; have HR10 : Hid (w10.cell? ⟨g, 0, none⟩ = some (.slice a0 l0 c0) ∧ w10.cell? ⟨gn, 0, none⟩ = some (.slice an ln cn) ∧ w10.cell? ⟨gd, 0, none⟩ = some (.slice ad' ld cd)) := ⟨((unhide HX8).later (unhide HB10)).c0, ((unhide HX8).later (unhide HB10)).bn.c, ((unhide HX8).later (unhide HB10)).bd.c⟩
          refine hK _ _ ⟨unhide HR10, trivial⟩ ?_
          clear hK K
          have HS10 := hide ((unhide HS8).later (unhide HB10))
          have y0 := (unhide HS10).br.c0; have y1 := (unhide HS10).br.c1; have y2 := (unhide HS10).br.c2; have yf0 := (unhide HS10).br.f0; have yf1 := (unhide HS10).br.f1; have yf2 := (unhide HS10).br.f2
          refine wpR_late (i := 9) (o := _) (by kernel_rfl) rfl rfl (by kernel_rfl) (fun K hK => ?_)
          go_simp
          refine hK _ _ trivial ?_
          clear hK K
          refine wpR_done (by kernel_rfl) ?_
          go_wp2
          try rw [Exit.noGoto_ret]
          have hS := (unhide HS10).br.store (.bool rb) (.slice k1 k2 k3) (.slice k4 k5 k6)
          have hbw : Below w.heap.size w (store3 w10 (w.heap.size + 1 + 1) (.bool rb) (.slice k1 k2 k3) (.slice k4 k5 k6)) := below_store3 (unhide HS10).below (by omega) _ _ _
          have z0 := hS.c0; have z1 := hS.c1; have z2 := hS.c2
          have hq1 := (unhide HS10).br.big (.bool rb) (.slice k1 k2 k3) (.slice k4 k5 k6) (unhide HQR).1
          have hq2 := (unhide HS10).br.big (.bool rb) (.slice k1 k2 k3) (.slice k4 k5 k6) (unhide HQR).2.1
          exact bodyPost_ret (v := .agg #[.bool rb, .slice k1 k2 k3, .slice k4 k5 k6]) (w := store3 w10 (w.heap.size + 1 + 1) (.bool rb) (.slice k1 k2 k3) (.slice k4 k5 k6)) (by simp [results, Tryz.results118, go_sem, z0, z1, z2]) rfl ⟨_, ts2, rfl, unhide HCF, unhide HFN _ rb rn rd _ _ hq1 hq2 (unhide HQR).2.2.1 (unhide HQR).2.2.2, hbw⟩
        · have HCA : Hid (Calls Tryz.prog 124 #[.slice (some ⟨g, 1, none⟩) (vs2.length - 1) (cap - 1)] w6 fun e w' => ∃ a l c a' l' c', e = .returned (.tuple #[.agg #[.slice a l c], .agg #[.slice a' l' c'], .bool true]) ∧ IsBig w' (.agg #[.slice a l c]) (Cub.pr ts2.tail).2 ∧ IsBig w' (.agg #[.slice a' l' c']) (Cub.pr ts2.tail).1 ∧ Below w6.heap.size w6 w') := unhide HHH _ _ _ rfl (by omega) (by omega) (Or.inr rfl)
          clear HHH
          go_upto_region 11 with (go_at_call 124; go_must (refine (unhide HCA).mono ?_; rintro e w7 ⟨an, ln, cn, ad', ld, cd, rfl, hn, hd, hb7⟩; have HS7 := hide ((unhide HS6).later hb7); have HX7 : Hid (w7.cell? ⟨g, 0, none⟩ = some (.slice a0 l0 c0) ∧ IsBig w7 (.agg #[.slice a0 l0 c0]) t0) := ⟨(hb7.cell (p := ⟨g, 0, none⟩) (World.block_lt_of_cell? _ _ (unhide HX0).1)).trans (unhide HX0).1, (unhide HX0).2.later hb7⟩; have HND := hide (And.intro hn hd); clear hn hd hb7))
          obtain ⟨V8, hV8⟩ : ∃ V8, V8 = (w7.alloc (.cells #[.slice an ln cn] 72)).alloc (.cells #[.slice ad' ld cd] 72) := ⟨_, rfl⟩
          have hb8 : Below w7.heap.size w7 V8 := by rw [hV8]; exact ((Below.refl _ _).alloc (Nat.le_refl _) _).alloc (by simp) _
          have HS8 := hide ((unhide HS7).later hb8)
          have HX8 : Hid (TX V8 g w7.heap.size (w7.heap.size + 1) (.slice a0 l0 c0) (.slice an ln cn) (.slice ad' ld cd) t0 (Cub.pr ts2.tail).2 (Cub.pr ts2.tail).1) :=
            ⟨(hb8.cell (p := ⟨g, 0, none⟩) (World.block_lt_of_cell? _ _ (unhide HX7).1)).trans (unhide HX7).1, by rw [hV8]; exact ⟨by simp [go_sem], by simp [go_sem]⟩, by rw [hV8]; exact ⟨by simp [go_sem], by simp [go_sem]⟩, (unhide HX7).2.later hb8, (unhide HND).1.later hb8, (unhide HND).2.later hb8⟩
          rw [← hV8]
          clear hV8 hb8 HS6 HS7 HX7 HX0 HND HCA HT6
          obtain ⟨gn, hgn⟩ : ∃ gn, gn = w7.heap.size := ⟨_, rfl⟩
          obtain ⟨gd, hgd⟩ : ∃ gd, gd = w7.heap.size + 1 := ⟨_, rfl⟩
          rw [← hgd, ← hgn] at HX8 ⊢
          clear hgn hgd
          have HR0 : Hid (V8.drew.cell? ⟨g, 0, none⟩ = some (.slice a0 l0 c0) ∧ V8.drew.cell? ⟨gn, 0, none⟩ = some (.slice an ln cn) ∧ V8.drew.cell? ⟨gd, 0, none⟩ = some (.slice ad' ld cd)) := ⟨((unhide HX8).later ((Below.refl _ _).drew)).c0, ((unhide HX8).later ((Below.refl _ _).drew)).bn.c, ((unhide HX8).later ((Below.refl _ _).drew)).bd.c⟩
          refine region_reads 9 (fun W => W.cell? ⟨g, 0, none⟩ = some (.slice a0 l0 c0) ∧ W.cell? ⟨gn, 0, none⟩ = some (.slice an ln cn) ∧ W.cell? ⟨gd, 0, none⟩ = some (.slice ad' ld cd)) (fun _ => True) 10 rfl (by kernel_rfl) ?_
          refine wpR_take (i := 0) (oi := _) (v := .slice (some ⟨g, 0, none⟩) vs2.length cap) rfl (by kernel_rfl) (by kernel_rfl) (by kernel_rfl) (by kernel_rfl) (fun _ _ _ h => h) (Or.inl ⟨by rfl, ?_⟩) ⟨unhide HR0, trivial⟩ ?_
          · intro W hW
            go_split_ands
            go_simp
          refine wpR_take (i := 1) (oi := _) (v := .pointer (some ⟨g, 0, none⟩)) rfl (by kernel_rfl) (by kernel_rfl) (by kernel_rfl) (by kernel_rfl) (fun _ _ _ h => h) (Or.inl ⟨by rfl, ?_⟩) ⟨unhide HR0, trivial⟩ ?_
          · intro W hW
            go_split_ands
            go_simp
          refine wpR_take (i := 2) (oi := _) (v := .agg #[.slice a0 l0 c0]) rfl (by kernel_rfl) (by kernel_rfl) (by kernel_rfl) (by kernel_rfl) (fun _ _ _ h => h) (Or.inl ⟨by rfl, ?_⟩) ⟨unhide HR0, trivial⟩ ?_
          · intro W hW
            go_split_ands
            go_simp
          refine wpR_take (i := 5) (oi := _) (v := .agg #[.slice an ln cn]) rfl (by kernel_rfl) (by kernel_rfl) (by kernel_rfl) (by kernel_rfl) (fun _ _ _ h => h) (Or.inl ⟨by rfl, ?_⟩) ⟨unhide HR0, trivial⟩ ?_
          · intro W hW
            go_split_ands
            go_simp
          refine wpR_take (i := 6) (oi := _) (v := .agg #[.slice ad' ld cd]) rfl (by kernel_rfl) (by kernel_rfl) (by kernel_rfl) (by kernel_rfl) (fun _ _ _ h => h) (Or.inl ⟨by rfl, ?_⟩) ⟨unhide HR0, trivial⟩ ?_
          · intro W hW
            go_split_ands
            go_simp
          refine wpR_take (i := 7) (oi := _) (v := .agg #[.bool false, .slice an ln cn, .slice ad' ld cd]) rfl (by kernel_rfl) (by kernel_rfl) (by kernel_rfl) (by kernel_rfl) (fun _ _ _ h => h) (Or.inl ⟨by rfl, ?_⟩) ⟨unhide HR0, trivial⟩ ?_
          · intro W hW
            go_split_ands
            go_simp
          refine wpR_op (i := 3) (o := _) (by kernel_rfl) rfl rfl (fun K hK => ?_)
          go_simp
          refine (unhide HBO _).mono ?_
          rintro e w9 ⟨ao, lo, co, rfl, ho1, hb9⟩
          have HB9 := hide ((Below.refl V8.heap.size V8).drew.trans hb9); have HO1 := hide ho1; clear ho1 hb9; have HR9 : Hid (w9.cell? ⟨g, 0, none⟩ = some (.slice a0 l0 c0) ∧ w9.cell? ⟨gn, 0, none⟩ = some (.slice an ln cn) ∧ w9.cell? ⟨gd, 0, none⟩ = some (.slice ad' ld cd)) := ⟨((unhide HX8).later (unhide HB9)).c0, ((unhide HX8).later (unhide HB9)).bn.c, ((unhide HX8).later (unhide HB9)).bd.c⟩
          refine hK _ _ ⟨unhide HR9, trivial⟩ ?_
          clear hK K
          refine wpR_take (i := 4) (oi := _) (v := .agg #[.bool false, .slice a0 l0 c0, .slice ao lo co]) rfl (by kernel_rfl) (by kernel_rfl) (by kernel_rfl) (by kernel_rfl) (fun _ _ _ h => h) (Or.inl ⟨by rfl, ?_⟩) ⟨unhide HR9, trivial⟩ ?_
          · intro W hW
            go_split_ands
            go_simp
          refine wpR_op (i := 8) (o := _) (by kernel_rfl) rfl rfl (fun K hK => ?_)
          go_simp
          refine (qadd _ _ (Cub.valQ false t0 1) (Cub.valQ false (Cub.pr ts2.tail).2 (Cub.pr ts2.tail).1) 67 _ ⟨false, t0, 1, ⟨_, _, rfl, ((unhide HX8).later (unhide HB9)).ix, unhide HO1⟩, ⟨by decide, Nat.gcd_one_right _, fun h => by cases h⟩, rfl, unhide HTS, Nat.one_lt_pow (by decide) (by decide)⟩ (unhide HQ2 _ ((unhide HX8).later (unhide HB9)).in' ((unhide HX8).later (unhide HB9)).id')  (by decide)).mono ?_
          rintro e w10 ⟨vr, rfl, hqr, hb10⟩
          have HB10 := hide ((unhide HB9).trans (hb10.mono (unhide HB9).size)); obtain ⟨rb, rn, rd, ⟨s1, s2, rfl, q1, q2⟩, q3, q4, q5, q6⟩ := hqr; obtain ⟨k1, k2, k3, e1⟩ := q1.shape; obtain ⟨k4, k5, k6, e2⟩ := q2.shape; simp only [Value.agg.injEq, Array.mk.injEq, List.cons.injEq, and_true] at e1 e2; subst e1; subst e2; have HQR := hide (And.intro q1 (And.intro q2 (And.intro q3 q4))); clear q1 q2 q3 q4 q5 q6 hb10; have HR10 : Hid (w10.cell? ⟨g, 0, none⟩ = some (.slice a0 l0 c0) ∧ w10.cell? ⟨gn, 0, none⟩ = some (.slice an ln cn) ∧ w10.cell? ⟨gd, 0, none⟩ = some (.slice ad' ld cd)) := ⟨((unhide HX8).later (unhide HB10)).c0, ((unhide HX8).later (unhide HB10)).bn.c, ((unhide HX8).later (unhide HB10)).bd.c⟩
          refine hK _ _ ⟨unhide HR10, trivial⟩ ?_
          clear hK K
          have HS10 := hide ((unhide HS8).later (unhide HB10))
          have y0 := (unhide HS10).br.c0; have y1 := (unhide HS10).br.c1; have y2 := (unhide HS10).br.c2; have yf0 := (unhide HS10).br.f0; have yf1 := (unhide HS10).br.f1; have yf2 := (unhide HS10).br.f2
          refine wpR_late (i := 9) (o := _) (by kernel_rfl) rfl rfl (by kernel_rfl) (fun K hK => ?_)
          go_simp
          refine hK _ _ trivial ?_
          clear hK K
          refine wpR_done (by kernel_rfl) ?_
          go_wp2
          try rw [Exit.noGoto_ret]
          have hS := (unhide HS10).br.store (.bool rb) (.slice k1 k2 k3) (.slice k4 k5 k6)
          have hbw : Below w.heap.size w (store3 w10 (w.heap.size + 1 + 1) (.bool rb) (.slice k1 k2 k3) (.slice k4 k5 k6)) := below_store3 (unhide HS10).below (by omega) _ _ _
          have z0 := hS.c0; have z1 := hS.c1; have z2 := hS.c2
          have hq1 := (unhide HS10).br.big (.bool rb) (.slice k1 k2 k3) (.slice k4 k5 k6) (unhide HQR).1
          have hq2 := (unhide HS10).br.big (.bool rb) (.slice k1 k2 k3) (.slice k4 k5 k6) (unhide HQR).2.1
          exact bodyPost_ret (v := .agg #[.bool rb, .slice k1 k2 k3, .slice k4 k5 k6]) (w := store3 w10 (w.heap.size + 1 + 1) (.bool rb) (.slice k1 k2 k3) (.slice k4 k5 k6)) (by simp [results, Tryz.results118, go_sem, z0, z1, z2]) rfl ⟨_, ts2, rfl, unhide HCF, unhide HFN _ rb rn rd _ _ hq1 hq2 (unhide HQR).2.2.1 (unhide HQR).2.2.2, hbw⟩
      · have hcn : ¬ (Cub.cmpN (a / b) (c / d)) < 0 := by unfold Cub.cmpN; rw [if_neg hlt]; split <;> decide
        obtain ⟨kk, hkk⟩ : ∃ kk, kk = Cub.cmpN (a / b) (c / d) := ⟨_, rfl⟩
        have H141 := hide (fun W h1 h2 => cmp_any (.agg #[.slice a6 l6 c6]) (.agg #[.slice a8 l8 c8]) (a / b) (c / d) W h1 h2)
        rw [← hkk] at H141 hcn
        clear hkk
        go_upto_region 8 with (go_at_call 143; go_must (refine (unhide H141 _ (unhide HR5).i6 (unhide HR5).i8).mono ?_; rintro e wl ⟨rfl, hbl⟩; have HSl := hide ((unhide HS5).later hbl); have HTl := hide ((unhide HT5).later hbl); have HRl := hide ((unhide HR5).later hbl); clear hbl t6 t8; have t6 := (unhide HRl).b6.c))
        go_upto_region 9 with (at_builtin; go_must (refine wpList_appendN rfl _ _ rfl (w.heap.size + 3) _ vs rfl ((unhide HTl).own.later (al_below _ _)) ⟨wl.heap.size, 0, none⟩ 1 (.slice a6 l6 c6) rfl (al_one _ _) rfl (sl_no _ _ _) (unhide HLN) (by have := (unhide HSl).br.lt; simp; omega) rfl ?_; intro v6 w6 hap; have HAP := hide hap; clear hap))
        have HS6 : Hid (SB w w6 (.slice a1 l1 c1) (.slice a2 l2 c2) (.slice a3 l3 c3) (.slice a4 l4 c4) a b c d) := ((unhide HSl).later (al_below _ _)).app ((unhide HTl).own.later (al_below _ _)) (unhide HAP) rfl
        have HT6 : Hid (TR w6 (w.heap.size + 3) v6 (vs ++ [.slice a6 l6 c6]) (pre ++ [a / b])) := ((unhide HTl).later (al_below _ _)).push (unhide HAP) ((unhide HRl).i6.later (al_below _ _))
        have HR6 : Hid (Box w6 g7 (.slice a7 l7 c7) ∧ Box w6 g9 (.slice a9 l9 c9) ∧ IsBig w6 (.agg #[.slice a7 l7 c7]) (a % b) ∧ IsBig w6 (.agg #[.slice a9 l9 c9]) (c % d)) :=
          ⟨(unhide HAP).boxK ((unhide HRl).later (al_below _ _)).b7 (unhide HRl).n7, (unhide HAP).boxK ((unhide HRl).later (al_below _ _)).b9 (unhide HRl).n9, (unhide HAP).big _ _ ((unhide HRl).i7.later (al_below _ _)), (unhide HAP).big _ _ ((unhide HRl).i9.later (al_below _ _))⟩
        have HI6 := hide ((unhide HI).step hr0 hlt)
        have HGT : Hid (w.heap.size + 1 < g7) := unhide HGG
        have HMS : Hid (c % d + a % b < b + d) := by
          obtain ⟨_, _, m1, m2⟩ := (unhide HI).ord.on hr0 hlt
          show _ < _
          omega
        clear HAP HS4 HT4 HR4 HS5 HT5 HR5 HSl HTl HRl H141 hcn t6 hlt HI hz0 hr0
        have HSd := hide ((unhide HS6).later (Below.refl _ _).drew)
        have HSS : Hid (w6.drew.cell? ⟨w.heap.size + 1, 2, none⟩ = some (.slice a4 l4 c4) ∧ w6.drew.cell? ⟨g9, 0, none⟩ = some (.slice a9 l9 c9) ∧ w6.drew.cell? ⟨w.heap.size, 2, none⟩ = some (.slice a2 l2 c2) ∧ w6.drew.cell? ⟨g7, 0, none⟩ = some (.slice a7 l7 c7)) := ⟨(unhide HSd).bh.c2, ((unhide HR6).2.1.later (Below.refl _ _).drew).c, (unhide HSd).bl.c2, ((unhide HR6).1.later (Below.refl _ _).drew).c⟩
        have HS7 : Hid (w6.drew.cell? ⟨g7, 0, none⟩ = some (.slice a7 l7 c7)) := ((unhide HR6).1.later (Below.refl _ _).drew).c
        refine region_reads 8 (fun W => W.cell? ⟨w.heap.size + 1, 2, none⟩ = some (.slice a4 l4 c4) ∧ W.cell? ⟨g9, 0, none⟩ = some (.slice a9 l9 c9) ∧ W.cell? ⟨w.heap.size, 2, none⟩ = some (.slice a2 l2 c2) ∧ W.cell? ⟨g7, 0, none⟩ = some (.slice a7 l7 c7)) (fun W => W.cell? ⟨g7, 0, none⟩ = some (.slice a7 l7 c7)) 10 rfl (by kernel_rfl) ?_
        refine wpR_take (i := 0) (oi := _) (v := .pointer (some ⟨w.heap.size + 1, 2, none⟩)) rfl (by kernel_rfl) (by kernel_rfl) (by kernel_rfl) (by kernel_rfl) (fun _ _ _ h => h) (Or.inl ⟨by rfl, ?_⟩) ⟨unhide HSS, unhide HS7⟩ ?_
        · intro W hW
          go_split_ands
          go_simp
        refine wpR_take (i := 1) (oi := _) (v := .agg #[.slice a4 l4 c4]) rfl (by kernel_rfl) (by kernel_rfl) (by kernel_rfl) (by kernel_rfl) (fun _ _ _ h => h) (Or.inl ⟨by rfl, ?_⟩) ⟨unhide HSS, unhide HS7⟩ ?_
        · intro W hW
          go_split_ands
          go_simp
        refine wpR_take (i := 2) (oi := _) (v := .agg #[.slice a9 l9 c9]) rfl (by kernel_rfl) (by kernel_rfl) (by kernel_rfl) (by kernel_rfl) (fun _ _ _ h => h) (Or.inl ⟨by rfl, ?_⟩) ⟨unhide HSS, unhide HS7⟩ ?_
        · intro W hW
          go_split_ands
          go_simp
        refine wpR_take (i := 3) (oi := _) (v := .agg #[.bool false, .slice a4 l4 c4, .slice a9 l9 c9]) rfl (by kernel_rfl) (by kernel_rfl) (by kernel_rfl) (by kernel_rfl) (fun _ _ _ h => h) (Or.inl ⟨by rfl, ?_⟩) ⟨unhide HSS, unhide HS7⟩ ?_
        · intro W hW
          go_split_ands
          go_simp
        refine wpR_take (i := 4) (oi := _) (v := .pointer (some ⟨w.heap.size, 2, none⟩)) rfl (by kernel_rfl) (by kernel_rfl) (by kernel_rfl) (by kernel_rfl) (fun _ _ _ h => h) (Or.inl ⟨by rfl, ?_⟩) ⟨unhide HSS, unhide HS7⟩ ?_
        · intro W hW
          go_split_ands
          go_simp
        refine wpR_take (i := 5) (oi := _) (v := .agg #[.slice a2 l2 c2]) rfl (by kernel_rfl) (by kernel_rfl) (by kernel_rfl) (by kernel_rfl) (fun _ _ _ h => h) (Or.inl ⟨by rfl, ?_⟩) ⟨unhide HSS, unhide HS7⟩ ?_
        · intro W hW
          go_split_ands
          go_simp
        refine wpR_take7 (i := 6) (oi := _) (v := .agg #[.slice a7 l7 c7]) rfl (by kernel_rfl) (by kernel_rfl) (by kernel_rfl) (by kernel_rfl) (fun _ _ _ h => h) (Or.inl ⟨by rfl, ?_⟩) ⟨unhide HSS, unhide HS7⟩ ?_
        · intro W hW
          go_split_ands
          go_simp
        refine wpR_take7 (i := 7) (oi := _) (v := .agg #[.bool false, .slice a2 l2 c2, .slice a7 l7 c7]) rfl (by kernel_rfl) (by kernel_rfl) (by kernel_rfl) (by kernel_rfl) (fun _ _ _ h => h) (Or.inl ⟨by rfl, ?_⟩) ⟨unhide HSS, unhide HS7⟩ ?_
        · intro W hW
          go_split_ands
          go_simp
        have y0 := (unhide HS6).bl.c0; have y1 := (unhide HS6).bl.c1; have y2 := (unhide HS6).bl.c2; have yf0 := (unhide HS6).bl.f0; have yf1 := (unhide HS6).bl.f1; have yf2 := (unhide HS6).bl.f2
        have z0 := (unhide HS6).bh.c0; have z1 := (unhide HS6).bh.c1; have z2 := (unhide HS6).bh.c2; have zf0 := (unhide HS6).bh.f0; have zf1 := (unhide HS6).bh.f1; have zf2 := (unhide HS6).bh.f2
        have HG7 : Hid (w.heap.size + 1 < g7) := unhide HGT
        have HC7 : Hid (((store3 w6 w.heap.size (.bool false) (.slice a4 l4 c4) (.slice a9 l9 c9)).drew.cell? ⟨g7, 0, none⟩ = some (.slice a7 l7 c7)) ∧ ((store3 (store3 w6 w.heap.size (.bool false) (.slice a4 l4 c4) (.slice a9 l9 c9)) (w.heap.size + 1) (.bool false) (.slice a2 l2 c2) (.slice a7 l7 c7)).drew.cell? ⟨g7, 0, none⟩ = some (.slice a7 l7 c7))) := by
          have h7 := unhide HG7
          have f1 : Box (store3 w6 w.heap.size (.bool false) (.slice a4 l4 c4) (.slice a9 l9 c9)) g7 (.slice a7 l7 c7) := box_store3 (unhide HR6).1 (by omega) _ _ _
          have f2 : Box (store3 (store3 w6 w.heap.size (.bool false) (.slice a4 l4 c4) (.slice a9 l9 c9)) (w.heap.size + 1) (.bool false) (.slice a2 l2 c2) (.slice a7 l7 c7)) g7 (.slice a7 l7 c7) := box_store3 f1 (by omega) _ _ _
          exact ⟨(f1.later (Below.refl _ _).drew).c, (f2.later (Below.refl _ _).drew).c⟩
        refine wpR_late (i := 8) (o := _) (by kernel_rfl) rfl rfl (by kernel_rfl) (fun K hK => ?_)
        go_simp
        refine hK _ _ (unhide HC7).1 ?_
        clear hK K
        refine wpR_late (i := 9) (o := _) (by kernel_rfl) rfl rfl (by kernel_rfl) (fun K hK => ?_)
        go_simp
        refine hK _ _ (unhide HC7).2 ?_
        clear hK K
        refine wpR_done (by kernel_rfl) ?_
        obtain ⟨V9, hV9⟩ : ∃ V9, V9 = ((((((w6.setCell { block := w.heap.size, off := 0 } (.bool false)).setCell { block := w.heap.size, off := 1 } (.slice a4 l4 c4)).setCell { block := w.heap.size, off := 2 } (.slice a9 l9 c9)).setCell { block := w.heap.size + 1, off := 0 } (.bool false)).setCell { block := w.heap.size + 1, off := 1 } (.slice a2 l2 c2)).setCell { block := w.heap.size + 1, off := 2 } (.slice a7 l7 c7)).drew := ⟨_, rfl⟩
        have HS9 : Hid (SB w V9 (.slice a4 l4 c4) (.slice a9 l9 c9) (.slice a2 l2 c2) (.slice a7 l7 c7) d (c % d) b (a % b)) := by rw [hV9]; exact (SB.step rfl rfl (unhide HS6) (unhide HR6).2.2.2 (unhide HR6).2.2.1).later (Below.refl _ _).drew
        have HT9 : Hid (TR V9 (w.heap.size + 3) v6 (vs ++ [.slice a6 l6 c6]) (pre ++ [a / b])) := by
          rw [hV9]
          exact (TR.step (TR.step (unhide HT6) (unhide HS6).bl (by omega) _ _ _) ((unhide HS6).bh.other3 (k := w.heap.size) (by omega) _ _ _) (by omega) _ _ _).later (Below.refl _ _).drew
        rw [← hV9]
        clear hV9 HS6 HT6 HR6 HSd HSS HS7 HC7 HG7 y0 y1 y2 yf0 yf1 yf2 z0 z1 z2 zf0 zf1 zf2
        go_wp2
        go_roundg (c % d + a % b)
        case measure => have h1 := unhide HZ; have h2 := unhide HMS; omega
        case rel => exact ⟨v6, a4, l4, c4, a9, l9, c9, a2, l2, c2, a7, l7, c7, d, c % d, b, a % b, _, _, rfl, rfl, HS9, HT9, HI6⟩

end Go.Proofs.YtndhinoomlofgaaGreatDoor

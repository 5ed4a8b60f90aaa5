/- The document's Find of a scale. -/
import Derived.Test.YtimihoonnglniaaGreatDoorRefUnits
import Derived.Laws.Tables
import Derived.Laws.CopyOwn
import Derived.Laws.ResultCell
namespace Go.Proofs.YtimihoonnglniaaGreatDoor
open Go.RowKit
/-- A box of many cells. -/
structure UB (W : World) (g : Nat) (vs : Array Value) : Prop where
  lt : g < W.heap.size
  c : ∀ i v, vs[i]? = some v → W.cell? ⟨g, i, none⟩ = some v
  f : ∀ i v, vs[i]? = some v → W.frozen? ⟨g, i, none⟩ = false
theorem UB.later {W V : World} {g : Nat} {vs : Array Value} (h : UB W g vs) (hb : Below W.heap.size W V) : UB V g vs :=
  ⟨Nat.lt_of_lt_of_le h.lt hb.size, fun i v e => (hb.cell (p := ⟨g, i, none⟩) h.lt).trans (h.c i v e), fun i v e => (hb.frozen (p := ⟨g, i, none⟩) h.lt).trans (h.f i v e)⟩
theorem UB.new (W : World) (vs : Array Value) (ty : Nat) : UB (W.alloc (.cells vs ty)) W.heap.size vs :=
  ⟨by simp, fun i v e => by simp [go_sem, e], fun i v e => by simp [go_sem]⟩
/-- A block that holds just these cells. -/
def OwnU (W : World) (g ty : Nat) (vs : Array Value) : Prop := W.heap[g]? = some (.cells vs ty (0, 0))
theorem OwnU.lt {W : World} {g ty : Nat} {vs : Array Value} (h : OwnU W g ty vs) : g < W.heap.size := (Array.getElem?_eq_some_iff.1 h).1
theorem OwnU.ub {W : World} {g ty : Nat} {vs : Array Value} (h : OwnU W g ty vs) : UB W g vs := by
  have hl := h.lt
  unfold OwnU at h
  exact ⟨hl, fun i v e => by simp [World.cell?, h, e], fun i v e => by simp [World.frozen?, h]⟩
theorem OwnU.alloc {W : World} {g ty : Nat} {vs : Array Value} (h : OwnU W g ty vs) (o : Obj) : OwnU (W.alloc o) g ty vs := (Below.heap_alloc W o g h.lt).trans h
theorem OwnU.later {W V : World} {g ty : Nat} {vs : Array Value} (h : OwnU W g ty vs) (hb : Below W.heap.size W V) : OwnU V g ty vs := (hb.block g h.lt).trans h
theorem OwnU.new (W : World) (vs : Array Value) (ty : Nat) : OwnU (W.alloc (.cells vs ty)) W.heap.size ty vs := heap_alloc_new W _
theorem OwnU.setRow {W : World} {g ty : Nat} {vs : Array Value} (h : OwnU W g ty vs) (us : Array Value) : OwnU (W.setRow g us) g ty us := setRow_heap W g _ _ ty (0, 0) h
theorem info56 : (Tryz.prog.info? 56).map (·.size) = some 15 := by kernel_rfl
theorem storeU {ops : Array Oper} {rest : List Oper} {o : Oper} {a : Act} {w : World} {Q : Exit → Act → World → Prop} (hgd : o.guard = none) (x y : Operand) (ho : o.op = .store 56 x y)
    (g : Nat) (vs us : Array Value) (hv : vs.size = 15) (hu : us.size = 15) (hx : a.eval x = .pointer (some ⟨g, 0, none⟩)) (hy : a.eval y = .agg us) (hg : OwnU w g 56 vs) (h1 : us.all (·.oneCell') = true)
    (h : wpList Tryz.prog ops Q rest (a.put o.dst undef) (w.setRow g us)) : wpList Tryz.prog ops Q (o :: rest) a w :=
  wpList_store_row hgd 56 x y ho g us hx hy 56 _ hg (by rw [info56, hu]) (by rw [hv, hu]) h1 h
theorem res24 (tmps : Array Value) (w : World) (g : Nat) (vs : Array Value) (hl : vs.size = 15) (hp : tmps.getD 2 undef = .pointer (some ⟨g, 0, none⟩)) (ho : OwnU w g 56 vs) :
    (results Tryz.f24 tmps).run Tryz.prog w = .ok (.tuple #[.agg vs, tmps.getD 3 undef]) w := by
  rw [results_cell_tmp Tryz.results24, hp]
  simp only [asAddr, Sem.run_pure, Result.andThen_ok]
  rw [run_loadVar_row w g 56 56 vs (0, 0) _ ho Tryz.underlying56 rfl (by rw [info56, hl])]
  rfl
def zU : Array Value := #[.string ⟨#[]⟩, .string ⟨#[]⟩, .int .i64 0, .int .i64 0, .int .i64 0, .int .i64 0, .int .i64 0, .int .i64 0, .int .i64 0, .int .i64 0, .string ⟨#[]⟩, .string ⟨#[]⟩, .string ⟨#[]⟩, .string ⟨#[]⟩, .int .i64 0]
set_option maxRecDepth 100000 in
set_option maxHeartbeats 8000000 in
theorem refFind_3n (s : ByteArray) (w : World) (h0 : (s.toList == [107, 101, 108, 118, 105, 110]) = true) :
    Calls Tryz.prog 24 #[.string s] w fun r w' => r = .returned (.tuple #[.agg (uT 3), .bool true]) ∧ Below w.heap.size w w' := by
  have g0 : ([107, 101, 108, 118, 105, 110] == s.toList) = true := BEq.comm.trans h0
  obtain ⟨V, hV⟩ : ∃ V, V = w.alloc (.cells #[.string ⟨#[]⟩, .string ⟨#[]⟩, .int .i64 0, .int .i64 0, .int .i64 0, .int .i64 0, .int .i64 0, .int .i64 0, .int .i64 0, .int .i64 0, .string ⟨#[]⟩, .string ⟨#[]⟩, .string ⟨#[]⟩, .string ⟨#[]⟩, .int .i64 0] 56) := ⟨_, rfl⟩
  have HR : Hid (OwnU V w.heap.size 56 #[.string ⟨#[]⟩, .string ⟨#[]⟩, .int .i64 0, .int .i64 0, .int .i64 0, .int .i64 0, .int .i64 0, .int .i64 0, .int .i64 0, .int .i64 0, .string ⟨#[]⟩, .string ⟨#[]⟩, .string ⟨#[]⟩, .string ⟨#[]⟩, .int .i64 0]) := by rw [hV]; exact OwnU.new _ _ _
  have HB : Hid (Below w.heap.size w V) := by rw [hV]; exact (Below.refl _ _).alloc (Nat.le_refl _) _
  have HV := hide hV
  clear hV
  go_enter Tryz.func24, Tryz.ntmps24
  go_upto_region 1 with fail
  rw [← unhide HV]
  clear HV
  go_wp2_with (first
    | (go_at_call 48; refine (rat48 _ _ _).mono ?_; rintro e w1 ⟨rfl, hb⟩; have HR1 := hide ((unhide HR).later hb); have HB1 := hide ((unhide HB).trans (hb.mono (unhide HB).size)); clear HR HB hb; have HR := HR1; have HB := HB1; clear HR1 HB1)
    | (refine storeU rfl (.tmp 2) (.tmp 15) rfl w.heap.size #[.string ⟨#[]⟩, .string ⟨#[]⟩, .int .i64 0, .int .i64 0, .int .i64 0, .int .i64 0, .int .i64 0, .int .i64 0, .int .i64 0, .int .i64 0, .string ⟨#[]⟩, .string ⟨#[]⟩, .string ⟨#[]⟩, .string ⟨#[]⟩, .int .i64 0] #[.string ⟨#[107, 101, 108, 118, 105, 110]⟩, .string ⟨#[75]⟩, .int .i64 0, .int .i64 0, .int .i64 0, .int .i64 0, .int .i64 1, .int .i64 0, .int .i64 0, .int .i64 0, .string ⟨#[49]⟩, .string ⟨#[49]⟩, .string ⟨#[48]⟩, .string ⟨#[49]⟩, .int .i64 1] rfl rfl rfl rfl (unhide HR) (by kernel_rfl) ?_))
  have hS : OwnU (World.setRow w1 w.heap.size #[.string ⟨#[107, 101, 108, 118, 105, 110]⟩, .string ⟨#[75]⟩, .int .i64 0, .int .i64 0, .int .i64 0, .int .i64 0, .int .i64 1, .int .i64 0, .int .i64 0, .int .i64 0, .string ⟨#[49]⟩, .string ⟨#[49]⟩, .string ⟨#[48]⟩, .string ⟨#[49]⟩, .int .i64 1]) w.heap.size 56 #[.string ⟨#[107, 101, 108, 118, 105, 110]⟩, .string ⟨#[75]⟩, .int .i64 0, .int .i64 0, .int .i64 0, .int .i64 0, .int .i64 1, .int .i64 0, .int .i64 0, .int .i64 0, .string ⟨#[49]⟩, .string ⟨#[49]⟩, .string ⟨#[48]⟩, .string ⟨#[49]⟩, .int .i64 1] := OwnU.setRow (unhide HR) _
  refine bodyPost_ret (v := .tuple #[.agg #[.string ⟨#[107, 101, 108, 118, 105, 110]⟩, .string ⟨#[75]⟩, .int .i64 0, .int .i64 0, .int .i64 0, .int .i64 0, .int .i64 1, .int .i64 0, .int .i64 0, .int .i64 0, .string ⟨#[49]⟩, .string ⟨#[49]⟩, .string ⟨#[48]⟩, .string ⟨#[49]⟩, .int .i64 1], .bool true]) (w := World.setRow w1 w.heap.size #[.string ⟨#[107, 101, 108, 118, 105, 110]⟩, .string ⟨#[75]⟩, .int .i64 0, .int .i64 0, .int .i64 0, .int .i64 0, .int .i64 1, .int .i64 0, .int .i64 0, .int .i64 0, .string ⟨#[49]⟩, .string ⟨#[49]⟩, .string ⟨#[48]⟩, .string ⟨#[49]⟩, .int .i64 1]) ?_ rfl ?_
  · exact res24 _ _ w.heap.size _ rfl rfl hS
  · exact ⟨rfl, below_setRow (unhide HB) (Nat.le_refl _) _⟩
set_option maxRecDepth 100000 in
set_option maxHeartbeats 8000000 in
theorem refFind_3s (s : ByteArray) (w : World) (h0 : (s.toList == [107, 101, 108, 118, 105, 110]) = false) (h1 : (s.toList == [75]) = true) :
    Calls Tryz.prog 24 #[.string s] w fun r w' => r = .returned (.tuple #[.agg (uT 3), .bool true]) ∧ Below w.heap.size w w' := by
  have g0 : ([107, 101, 108, 118, 105, 110] == s.toList) = false := BEq.comm.trans h0; have g1 : ([75] == s.toList) = true := BEq.comm.trans h1
  obtain ⟨V, hV⟩ : ∃ V, V = w.alloc (.cells #[.string ⟨#[]⟩, .string ⟨#[]⟩, .int .i64 0, .int .i64 0, .int .i64 0, .int .i64 0, .int .i64 0, .int .i64 0, .int .i64 0, .int .i64 0, .string ⟨#[]⟩, .string ⟨#[]⟩, .string ⟨#[]⟩, .string ⟨#[]⟩, .int .i64 0] 56) := ⟨_, rfl⟩
  have HR : Hid (OwnU V w.heap.size 56 #[.string ⟨#[]⟩, .string ⟨#[]⟩, .int .i64 0, .int .i64 0, .int .i64 0, .int .i64 0, .int .i64 0, .int .i64 0, .int .i64 0, .int .i64 0, .string ⟨#[]⟩, .string ⟨#[]⟩, .string ⟨#[]⟩, .string ⟨#[]⟩, .int .i64 0]) := by rw [hV]; exact OwnU.new _ _ _
  have HB : Hid (Below w.heap.size w V) := by rw [hV]; exact (Below.refl _ _).alloc (Nat.le_refl _) _
  have HV := hide hV
  clear hV
  go_enter Tryz.func24, Tryz.ntmps24
  go_upto_region 1 with fail
  rw [← unhide HV]
  clear HV
  go_wp2_with (first
    | (go_at_call 48; refine (rat48 _ _ _).mono ?_; rintro e w1 ⟨rfl, hb⟩; have HR1 := hide ((unhide HR).later hb); have HB1 := hide ((unhide HB).trans (hb.mono (unhide HB).size)); clear HR HB hb; have HR := HR1; have HB := HB1; clear HR1 HB1)
    | (refine storeU rfl (.tmp 2) (.tmp 15) rfl w.heap.size #[.string ⟨#[]⟩, .string ⟨#[]⟩, .int .i64 0, .int .i64 0, .int .i64 0, .int .i64 0, .int .i64 0, .int .i64 0, .int .i64 0, .int .i64 0, .string ⟨#[]⟩, .string ⟨#[]⟩, .string ⟨#[]⟩, .string ⟨#[]⟩, .int .i64 0] #[.string ⟨#[107, 101, 108, 118, 105, 110]⟩, .string ⟨#[75]⟩, .int .i64 0, .int .i64 0, .int .i64 0, .int .i64 0, .int .i64 1, .int .i64 0, .int .i64 0, .int .i64 0, .string ⟨#[49]⟩, .string ⟨#[49]⟩, .string ⟨#[48]⟩, .string ⟨#[49]⟩, .int .i64 1] rfl rfl rfl rfl (unhide HR) (by kernel_rfl) ?_))
  have hS : OwnU (World.setRow w1 w.heap.size #[.string ⟨#[107, 101, 108, 118, 105, 110]⟩, .string ⟨#[75]⟩, .int .i64 0, .int .i64 0, .int .i64 0, .int .i64 0, .int .i64 1, .int .i64 0, .int .i64 0, .int .i64 0, .string ⟨#[49]⟩, .string ⟨#[49]⟩, .string ⟨#[48]⟩, .string ⟨#[49]⟩, .int .i64 1]) w.heap.size 56 #[.string ⟨#[107, 101, 108, 118, 105, 110]⟩, .string ⟨#[75]⟩, .int .i64 0, .int .i64 0, .int .i64 0, .int .i64 0, .int .i64 1, .int .i64 0, .int .i64 0, .int .i64 0, .string ⟨#[49]⟩, .string ⟨#[49]⟩, .string ⟨#[48]⟩, .string ⟨#[49]⟩, .int .i64 1] := OwnU.setRow (unhide HR) _
  refine bodyPost_ret (v := .tuple #[.agg #[.string ⟨#[107, 101, 108, 118, 105, 110]⟩, .string ⟨#[75]⟩, .int .i64 0, .int .i64 0, .int .i64 0, .int .i64 0, .int .i64 1, .int .i64 0, .int .i64 0, .int .i64 0, .string ⟨#[49]⟩, .string ⟨#[49]⟩, .string ⟨#[48]⟩, .string ⟨#[49]⟩, .int .i64 1], .bool true]) (w := World.setRow w1 w.heap.size #[.string ⟨#[107, 101, 108, 118, 105, 110]⟩, .string ⟨#[75]⟩, .int .i64 0, .int .i64 0, .int .i64 0, .int .i64 0, .int .i64 1, .int .i64 0, .int .i64 0, .int .i64 0, .string ⟨#[49]⟩, .string ⟨#[49]⟩, .string ⟨#[48]⟩, .string ⟨#[49]⟩, .int .i64 1]) ?_ rfl ?_
  · exact res24 _ _ w.heap.size _ rfl rfl hS
  · exact ⟨rfl, below_setRow (unhide HB) (Nat.le_refl _) _⟩
end Go.Proofs.YtimihoonnglniaaGreatDoor

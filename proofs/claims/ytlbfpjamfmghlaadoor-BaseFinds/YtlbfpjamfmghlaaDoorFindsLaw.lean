/- BaseFinds: what base.Find answers is what the document says, whatever the text. -/
import Derived.Test.YtlbfpjamfmghlaaDoorRefFind
import Derived.ChangeKeysEq
import Derived.Laws.StructEq
namespace Go.Proofs.YtlbfpjamfmghlaaDoor
open Go.RowKit
theorem info3U : ∃ i, Tryd.prog.info? 3 = some i := Option.isSome_iff_exists.1 (by kernel_rfl)
theorem cells3U : Tryd.prog.cellsOf 3 = 1 := by kernel_rfl
section
variable (nm sy : ByteArray) (d0 d1 d2 d3 d4 d5 d6 d7 : Int) (fn fd on od : ByteArray) (tk : Int)
theorem eqD (d : Nat) (w : World) : (Op.equalIn (d + 2) 23 (.agg #[.int .i64 d0, .int .i64 d1, .int .i64 d2, .int .i64 d3, .int .i64 d4, .int .i64 d5, .int .i64 d6, .int .i64 d7]) (.agg #[.int .i64 d0, .int .i64 d1, .int .i64 d2, .int .i64 d3, .int .i64 d4, .int .i64 d5, .int .i64 d6, .int .i64 d7])).run Tryd.prog w = .ok true w := by
  obtain ⟨inf, hinf⟩ := info3U
  rw [show d + 2 = (d + 1) + 1 from rfl, run_equalIn_array w (d + 1) _ _ Tryd.underlying23 hinf, cells3U, show List.range 8 = [0, 1, 2, 3, 4, 5, 6, 7] from rfl]
  have p0 : ∀ w : World, (part 3 #[.int .i64 d0, .int .i64 d1, .int .i64 d2, .int .i64 d3, .int .i64 d4, .int .i64 d5, .int .i64 d6, .int .i64 d7] (0 * 1)).run Tryd.prog w = .ok (.int .i64 d0) w := fun _ => by kernel_rfl
  have p1 : ∀ w : World, (part 3 #[.int .i64 d0, .int .i64 d1, .int .i64 d2, .int .i64 d3, .int .i64 d4, .int .i64 d5, .int .i64 d6, .int .i64 d7] (1 * 1)).run Tryd.prog w = .ok (.int .i64 d1) w := fun _ => by kernel_rfl
  have p2 : ∀ w : World, (part 3 #[.int .i64 d0, .int .i64 d1, .int .i64 d2, .int .i64 d3, .int .i64 d4, .int .i64 d5, .int .i64 d6, .int .i64 d7] (2 * 1)).run Tryd.prog w = .ok (.int .i64 d2) w := fun _ => by kernel_rfl
  have p3 : ∀ w : World, (part 3 #[.int .i64 d0, .int .i64 d1, .int .i64 d2, .int .i64 d3, .int .i64 d4, .int .i64 d5, .int .i64 d6, .int .i64 d7] (3 * 1)).run Tryd.prog w = .ok (.int .i64 d3) w := fun _ => by kernel_rfl
  have p4 : ∀ w : World, (part 3 #[.int .i64 d0, .int .i64 d1, .int .i64 d2, .int .i64 d3, .int .i64 d4, .int .i64 d5, .int .i64 d6, .int .i64 d7] (4 * 1)).run Tryd.prog w = .ok (.int .i64 d4) w := fun _ => by kernel_rfl
  have p5 : ∀ w : World, (part 3 #[.int .i64 d0, .int .i64 d1, .int .i64 d2, .int .i64 d3, .int .i64 d4, .int .i64 d5, .int .i64 d6, .int .i64 d7] (5 * 1)).run Tryd.prog w = .ok (.int .i64 d5) w := fun _ => by kernel_rfl
  have p6 : ∀ w : World, (part 3 #[.int .i64 d0, .int .i64 d1, .int .i64 d2, .int .i64 d3, .int .i64 d4, .int .i64 d5, .int .i64 d6, .int .i64 d7] (6 * 1)).run Tryd.prog w = .ok (.int .i64 d6) w := fun _ => by kernel_rfl
  have p7 : ∀ w : World, (part 3 #[.int .i64 d0, .int .i64 d1, .int .i64 d2, .int .i64 d3, .int .i64 d4, .int .i64 d5, .int .i64 d6, .int .i64 d7] (7 * 1)).run Tryd.prog w = .ok (.int .i64 d7) w := fun _ => by kernel_rfl
  have e := fun w a b => run_equalIn_int (P := Tryd.prog) w d 3 .i64 .i64 a b Tryd.underlying3
  simp only [Op.eqItems, Sem.run_bind, p0, p1, p2, p3, p4, p5, p6, p7, Result.andThen_ok, e, Sem.run_ite, Sem.run_pure]
  simp
theorem fieldsQ : ∃ f0 f1, (Tryd.prog.fieldsOf 25).toList = [f0, f1] ∧ f0.type = 9 ∧ f0.offset = 0 ∧ f0.name ≠ "_" ∧ f1.type = 9 ∧ f1.offset = 1 ∧ f1.name ≠ "_" := by
  unfold Program.fieldsOf
  rw [Tryd.underlying25]
  exact ⟨_, _, rfl, rfl, rfl, by decide +kernel, rfl, rfl, by decide +kernel⟩
theorem eqQ (d : Nat) (w : World) : (Op.equalIn (d + 2) 25 (.agg #[.string fn, .string fd]) (.agg #[.string fn, .string fd])).run Tryd.prog w = .ok true w := by
  rw [show d + 2 = (d + 1) + 1 from rfl, run_equalIn_struct w (d + 1) 25 _ _ (by kernel_rfl) (by kernel_rfl)]
  obtain ⟨f0, f1, hf, t0, o0, n0, t1, o1, n1⟩ := fieldsQ
  rw [hf]
  have p0 : ∀ w : World, (part 9 #[.string fn, .string fd] 0).run Tryd.prog w = .ok (.string fn) w := fun _ => by kernel_rfl
  have p1 : ∀ w : World, (part 9 #[.string fn, .string fd] 1).run Tryd.prog w = .ok (.string fd) w := fun _ => by kernel_rfl
  have e := fun w a b => run_equalIn_string (P := Tryd.prog) w d 9 a b Tryd.underlying9
  simp only [Op.eqFields, n0, n1, t0, t1, o0, o1, Sem.run_bind, p0, p1, Result.andThen_ok, e, Sem.run_ite, Sem.run_pure, ne_eq, not_false_eq_true, if_true]
  simp
theorem fieldsU : ∃ f0 f1 f2 f3 f4 f5, (Tryd.prog.fieldsOf 27).toList = [f0, f1, f2, f3, f4, f5] ∧ (f0.type = 9 ∧ f0.offset = 0 ∧ f0.name ≠ "_") ∧ (f1.type = 9 ∧ f1.offset = 1 ∧ f1.name ≠ "_") ∧ (f2.type = 23 ∧ f2.offset = 2 ∧ f2.name ≠ "_") ∧ (f3.type = 25 ∧ f3.offset = 10 ∧ f3.name ≠ "_") ∧ (f4.type = 25 ∧ f4.offset = 12 ∧ f4.name ≠ "_") ∧ (f5.type = 3 ∧ f5.offset = 14 ∧ f5.name ≠ "_") := by
  unfold Program.fieldsOf
  rw [Tryd.underlying27]
  exact ⟨_, _, _, _, _, _, rfl, ⟨rfl, rfl, by decide +kernel⟩, ⟨rfl, rfl, by decide +kernel⟩, ⟨rfl, rfl, by decide +kernel⟩, ⟨rfl, rfl, by decide +kernel⟩, ⟨rfl, rfl, by decide +kernel⟩, ⟨rfl, rfl, by decide +kernel⟩⟩
theorem eqU (w : World) : (Op.equalIn 10000 27 (.agg #[.string nm, .string sy, .int .i64 d0, .int .i64 d1, .int .i64 d2, .int .i64 d3, .int .i64 d4, .int .i64 d5, .int .i64 d6, .int .i64 d7, .string fn, .string fd, .string on, .string od, .int .i64 tk]) (.agg #[.string nm, .string sy, .int .i64 d0, .int .i64 d1, .int .i64 d2, .int .i64 d3, .int .i64 d4, .int .i64 d5, .int .i64 d6, .int .i64 d7, .string fn, .string fd, .string on, .string od, .int .i64 tk])).run Tryd.prog w = .ok true w := by
  rw [show (10000 : Nat) = 9999 + 1 from rfl, run_equalIn_struct w 9999 27 _ _ (by kernel_rfl) (by kernel_rfl)]
  obtain ⟨f0, f1, f2, f3, f4, f5, hf, ⟨t0, o0, n0⟩, ⟨t1, o1, n1⟩, ⟨t2, o2, n2⟩, ⟨t3, o3, n3⟩, ⟨t4, o4, n4⟩, ⟨t5, o5, n5⟩⟩ := fieldsU
  rw [hf]
  have p0 : ∀ w : World, (part 9 #[.string nm, .string sy, .int .i64 d0, .int .i64 d1, .int .i64 d2, .int .i64 d3, .int .i64 d4, .int .i64 d5, .int .i64 d6, .int .i64 d7, .string fn, .string fd, .string on, .string od, .int .i64 tk] 0).run Tryd.prog w = .ok (.string nm) w := fun _ => by kernel_rfl
  have p1 : ∀ w : World, (part 9 #[.string nm, .string sy, .int .i64 d0, .int .i64 d1, .int .i64 d2, .int .i64 d3, .int .i64 d4, .int .i64 d5, .int .i64 d6, .int .i64 d7, .string fn, .string fd, .string on, .string od, .int .i64 tk] 1).run Tryd.prog w = .ok (.string sy) w := fun _ => by kernel_rfl
  have p2 : ∀ w : World, (part 23 #[.string nm, .string sy, .int .i64 d0, .int .i64 d1, .int .i64 d2, .int .i64 d3, .int .i64 d4, .int .i64 d5, .int .i64 d6, .int .i64 d7, .string fn, .string fd, .string on, .string od, .int .i64 tk] 2).run Tryd.prog w = .ok (.agg #[.int .i64 d0, .int .i64 d1, .int .i64 d2, .int .i64 d3, .int .i64 d4, .int .i64 d5, .int .i64 d6, .int .i64 d7]) w := fun _ => by kernel_rfl
  have p3 : ∀ w : World, (part 25 #[.string nm, .string sy, .int .i64 d0, .int .i64 d1, .int .i64 d2, .int .i64 d3, .int .i64 d4, .int .i64 d5, .int .i64 d6, .int .i64 d7, .string fn, .string fd, .string on, .string od, .int .i64 tk] 10).run Tryd.prog w = .ok (.agg #[.string fn, .string fd]) w := fun _ => by kernel_rfl
  have p4 : ∀ w : World, (part 25 #[.string nm, .string sy, .int .i64 d0, .int .i64 d1, .int .i64 d2, .int .i64 d3, .int .i64 d4, .int .i64 d5, .int .i64 d6, .int .i64 d7, .string fn, .string fd, .string on, .string od, .int .i64 tk] 12).run Tryd.prog w = .ok (.agg #[.string on, .string od]) w := fun _ => by kernel_rfl
  have p5 : ∀ w : World, (part 3 #[.string nm, .string sy, .int .i64 d0, .int .i64 d1, .int .i64 d2, .int .i64 d3, .int .i64 d4, .int .i64 d5, .int .i64 d6, .int .i64 d7, .string fn, .string fd, .string on, .string od, .int .i64 tk] 14).run Tryd.prog w = .ok (.int .i64 tk) w := fun _ => by kernel_rfl
  have e := fun w a b => run_equalIn_string (P := Tryd.prog) w 9998 9 a b Tryd.underlying9
  have e3 := fun w a b => run_equalIn_int (P := Tryd.prog) w 9998 3 .i64 .i64 a b Tryd.underlying3
  have ed := eqD d0 d1 d2 d3 d4 d5 d6 d7 9997
  have eq1 := eqQ fn fd 9997
  have eq2 := eqQ on od 9997
  simp only [Op.eqFields, n0, n1, n2, n3, n4, n5, t0, t1, t2, t3, t4, t5, o0, o1, o2, o3, o4, o5, Sem.run_bind, p0, p1, p2, p3, p4, p5, Result.andThen_ok, e, e3, ed, eq1, eq2, Sem.run_ite, Sem.run_pure, ne_eq, not_false_eq_true, if_true]
  simp
theorem eqlU (w : World) : (binOp .eql 27 (.agg #[.string nm, .string sy, .int .i64 d0, .int .i64 d1, .int .i64 d2, .int .i64 d3, .int .i64 d4, .int .i64 d5, .int .i64 d6, .int .i64 d7, .string fn, .string fd, .string on, .string od, .int .i64 tk]) (.agg #[.string nm, .string sy, .int .i64 d0, .int .i64 d1, .int .i64 d2, .int .i64 d3, .int .i64 d4, .int .i64 d5, .int .i64 d6, .int .i64 d7, .string fn, .string fd, .string on, .string od, .int .i64 tk])).run Tryd.prog w = .ok (.bool true) w := by
  rw [run_eql_struct, eqU]
  rfl
end
end Go.Proofs.YtlbfpjamfmghlaaDoor

namespace Go.Proofs.YtlbfpjamfmghlaaDoor
open Go.RowKit
theorem FindV.shape {p : Nat → Bool} {v : Value} (h : FindV p v) : ∃ (nm sy fn fd on od : ByteArray) (d0 d1 d2 d3 d4 d5 d6 d7 tk : Int) (ok : Bool), v = .tuple #[.agg #[.string nm, .string sy, .int .i64 d0, .int .i64 d1, .int .i64 d2, .int .i64 d3, .int .i64 d4, .int .i64 d5, .int .i64 d6, .int .i64 d7, .string fn, .string fd, .string on, .string od, .int .i64 tk], .bool ok] := by
  rcases h with ⟨k, hk, _, rfl⟩ | ⟨_, rfl⟩
  · rcases (by omega : k = 0 ∨ k = 1 ∨ k = 2 ∨ k = 3 ∨ k = 4 ∨ k = 5 ∨ k = 6 ∨ k = 7) with rfl | rfl | rfl | rfl | rfl | rfl | rfl | rfl <;> exact ⟨_, _, _, _, _, _, _, _, _, _, _, _, _, _, _, _, rfl⟩
  · exact ⟨_, _, _, _, _, _, _, _, _, _, _, _, _, _, _, _, rfl⟩
theorem kel_first : IsFirst (scB ⟨#[107, 101, 108, 118, 105, 110]⟩) (7 : Nat) := Or.inl ⟨7, by decide, rfl, by decide +kernel, fun i hi => by rcases (by omega : i = 0 ∨ i = 1 ∨ i = 2 ∨ i = 3 ∨ i = 4 ∨ i = 5 ∨ i = 6) with rfl | rfl | rfl | rfl | rfl | rfl | rfl <;> decide +kernel⟩
theorem kel_found (w : World) (htab : Tab w) : Calls Tryd.prog 4 #[.string ⟨#[107, 101, 108, 118, 105, 110]⟩] w fun r w' => r = .returned (.tuple #[.agg #[.string ⟨#[107, 101, 108, 118, 105, 110]⟩, .string ⟨#[75]⟩, .int .i64 0, .int .i64 0, .int .i64 0, .int .i64 0, .int .i64 1, .int .i64 0, .int .i64 0, .int .i64 0, .string ⟨#[49]⟩, .string ⟨#[49]⟩, .string ⟨#[48]⟩, .string ⟨#[49]⟩, .int .i64 1], .bool true]) ∧ Below w.heap.size w w' := by
  refine (find_any ⟨#[107, 101, 108, 118, 105, 110]⟩ w htab).mono ?_
  rintro e w' ⟨v, rfl, hv, hb⟩
  have : v = .tuple #[.agg #[.string ⟨#[107, 101, 108, 118, 105, 110]⟩, .string ⟨#[75]⟩, .int .i64 0, .int .i64 0, .int .i64 0, .int .i64 0, .int .i64 1, .int .i64 0, .int .i64 0, .int .i64 0, .string ⟨#[49]⟩, .string ⟨#[49]⟩, .string ⟨#[48]⟩, .string ⟨#[49]⟩, .int .i64 1], .bool true] := hv.det (Or.inl ⟨7, by decide, kel_first, rfl⟩)
  rw [this]
  exact ⟨rfl, hb⟩
set_option maxRecDepth 100000 in
set_option maxHeartbeats 8000000 in
theorem law_finds (s : ByteArray) (w : World) (htab : Tab w) : Calls Tryd.prog 3 #[.string s] w fun r w' => r = .returned (.bool true) ∧ Below w.heap.size w w' := by
  have HTA : Hid (∀ W, Below w.heap.size w W → Tab W) := fun W h => htab.later h
  clear htab
  go_enter Tryd.func3, Tryd.ntmps3
  go_upto_region 2 with (go_at_call 4; go_must (refine (find_any s _ (unhide HTA _ (Below.refl _ _))).mono ?_; rintro e W1 ⟨v, rfl, hv, hb⟩; obtain ⟨nm, sy, fn, fd, on, od, d0, d1, d2, d3, d4, d5, d6, d7, tk, ok, rfl⟩ := hv.shape; have HFV := hide hv; have HB1 := hide hb; clear hv hb))
  have HX : Hid (OwnU (W1.alloc (.cells #[.string nm, .string sy, .int .i64 d0, .int .i64 d1, .int .i64 d2, .int .i64 d3, .int .i64 d4, .int .i64 d5, .int .i64 d6, .int .i64 d7, .string fn, .string fd, .string on, .string od, .int .i64 tk] 27)) W1.heap.size 27 #[.string nm, .string sy, .int .i64 d0, .int .i64 d1, .int .i64 d2, .int .i64 d3, .int .i64 d4, .int .i64 d5, .int .i64 d6, .int .i64 d7, .string fn, .string fd, .string on, .string od, .int .i64 tk] ∧ Below W1.heap.size W1 (W1.alloc (.cells #[.string nm, .string sy, .int .i64 d0, .int .i64 d1, .int .i64 d2, .int .i64 d3, .int .i64 d4, .int .i64 d5, .int .i64 d6, .int .i64 d7, .string fn, .string fd, .string on, .string od, .int .i64 tk] 27))) := ⟨OwnU.new _ _ _, (Below.refl _ _).alloc (Nat.le_refl _) _⟩
  obtain ⟨g3, hg3⟩ : ∃ g3, g3 = W1.heap.size := ⟨_, rfl⟩
  obtain ⟨V2, hV2⟩ : ∃ V2, V2 = W1.alloc (.cells #[.string nm, .string sy, .int .i64 d0, .int .i64 d1, .int .i64 d2, .int .i64 d3, .int .i64 d4, .int .i64 d5, .int .i64 d6, .int .i64 d7, .string fn, .string fd, .string on, .string od, .int .i64 tk] 27) := ⟨_, rfl⟩
  rw [← hV2] at HX ⊢
  have HB2 := hide ((unhide HB1).trans ((unhide HX).2.mono (unhide HB1).size))
  have HA2 := hide (unhide HX).1
  rw [← hg3] at HA2 ⊢
  clear HX hg3 hV2 HB1
  go_upto_region 3 with (first
    | (go_at_call 6; go_must (refine (refUnits _).mono ?_; rintro e W0 ⟨W, rfl, rfl, hb⟩; have HUW := hide (fun k hk => uAll_at W k hk); have HGW : Hid (W.heap.size < (W.alloc (.cells uAll 27)).heap.size) := (by show _ < _; simp); have HBW : Hid (Below V2.heap.size V2 (W.alloc (.cells uAll 27))) := hb.alloc hb.size _; clear hb; obtain ⟨gU, hgU⟩ : ∃ gU, gU = W.heap.size := ⟨_, rfl⟩; obtain ⟨V3, hV3⟩ : ∃ V3, V3 = W.alloc (.cells uAll 27) := ⟨_, rfl⟩; rw [← hV3, ← hgU] at HUW HGW; rw [← hV3] at HBW; rw [← hV3, ← hgU]; clear hgU hV3))
    | (go_at_call 5; go_must (refine (refFind_any s gU 8 V3 (unhide HUW) (unhide HGW)).mono ?_; rintro e W4 ⟨v', rfl, hv', hb⟩; obtain rfl := (unhide HFV).det hv'; have HB4 := hide (((unhide HB2).trans ((unhide HBW).mono (unhide HB2).size)).trans (hb.mono ((unhide HB2).trans ((unhide HBW).mono (unhide HB2).size)).size)); have HA4 := hide (((unhide HA2).later (unhide HBW)).later hb); clear hb hv')))
  have HX : Hid (OwnU (W4.alloc (.cells #[.string nm, .string sy, .int .i64 d0, .int .i64 d1, .int .i64 d2, .int .i64 d3, .int .i64 d4, .int .i64 d5, .int .i64 d6, .int .i64 d7, .string fn, .string fd, .string on, .string od, .int .i64 tk] 27)) W4.heap.size 27 #[.string nm, .string sy, .int .i64 d0, .int .i64 d1, .int .i64 d2, .int .i64 d3, .int .i64 d4, .int .i64 d5, .int .i64 d6, .int .i64 d7, .string fn, .string fd, .string on, .string od, .int .i64 tk] ∧ Below W4.heap.size W4 (W4.alloc (.cells #[.string nm, .string sy, .int .i64 d0, .int .i64 d1, .int .i64 d2, .int .i64 d3, .int .i64 d4, .int .i64 d5, .int .i64 d6, .int .i64 d7, .string fn, .string fd, .string on, .string od, .int .i64 tk] 27))) := ⟨OwnU.new _ _ _, (Below.refl _ _).alloc (Nat.le_refl _) _⟩
  obtain ⟨g5, hg5⟩ : ∃ g5, g5 = W4.heap.size := ⟨_, rfl⟩
  obtain ⟨V5, hV5⟩ : ∃ V5, V5 = W4.alloc (.cells #[.string nm, .string sy, .int .i64 d0, .int .i64 d1, .int .i64 d2, .int .i64 d3, .int .i64 d4, .int .i64 d5, .int .i64 d6, .int .i64 d7, .string fn, .string fd, .string on, .string od, .int .i64 tk] 27) := ⟨_, rfl⟩
  rw [← hV5] at HX ⊢
  have HB5 := hide ((unhide HB4).trans ((unhide HX).2.mono (unhide HB4).size)); have HA5 := hide ((unhide HA4).later (unhide HX).2)
  have HC5 := hide (unhide HX).1
  rw [← hg5] at HC5 ⊢
  clear HX hg5 hV5 HB4 HA4 HA2 HB2 HFV HUW HGW HBW
  go_upto_region 4 with (go_at_call 4; go_must (refine (kel_found _ (unhide HTA _ (unhide HB5))).mono ?_; rintro e W6 ⟨rfl, hb⟩; have HB6 := hide ((unhide HB5).trans (hb.mono (unhide HB5).size)); have HA6 := hide ((unhide HA5).later hb); have HC6 := hide ((unhide HC5).later hb); clear hb HA5 HC5 HB5))
  have HX : Hid (Below W6.heap.size W6 (W6.alloc (.cells #[.string ⟨#[107, 101, 108, 118, 105, 110]⟩, .string ⟨#[75]⟩, .int .i64 0, .int .i64 0, .int .i64 0, .int .i64 0, .int .i64 1, .int .i64 0, .int .i64 0, .int .i64 0, .string ⟨#[49]⟩, .string ⟨#[49]⟩, .string ⟨#[48]⟩, .string ⟨#[49]⟩, .int .i64 1] 27))) := (Below.refl _ _).alloc (Nat.le_refl _) _
  have HB7 := hide ((unhide HB6).trans ((unhide HX).mono (unhide HB6).size)); have HA7 := hide ((unhide HA6).later (unhide HX)); have HC7 := hide ((unhide HC6).later (unhide HX))
  clear HX HB6 HA6 HC6
  generalize W6.alloc (.cells #[.string ⟨#[107, 101, 108, 118, 105, 110]⟩, .string ⟨#[75]⟩, .int .i64 0, .int .i64 0, .int .i64 0, .int .i64 0, .int .i64 1, .int .i64 0, .int .i64 0, .int .i64 0, .string ⟨#[49]⟩, .string ⟨#[49]⟩, .string ⟨#[48]⟩, .string ⟨#[49]⟩, .int .i64 1] 27) = V7 at *
  generalize W6.heap.size = g7 at *
  have g30 : V7.cell? ⟨g3, 0, none⟩ = some (.string nm) := (unhide HA7).ub.c 0 _ rfl; have g31 : V7.cell? ⟨g3, 1, none⟩ = some (.string sy) := (unhide HA7).ub.c 1 _ rfl; have g32 : V7.cell? ⟨g3, 2, none⟩ = some (.int .i64 d0) := (unhide HA7).ub.c 2 _ rfl; have g33 : V7.cell? ⟨g3, 3, none⟩ = some (.int .i64 d1) := (unhide HA7).ub.c 3 _ rfl; have g34 : V7.cell? ⟨g3, 4, none⟩ = some (.int .i64 d2) := (unhide HA7).ub.c 4 _ rfl; have g35 : V7.cell? ⟨g3, 5, none⟩ = some (.int .i64 d3) := (unhide HA7).ub.c 5 _ rfl; have g36 : V7.cell? ⟨g3, 6, none⟩ = some (.int .i64 d4) := (unhide HA7).ub.c 6 _ rfl; have g37 : V7.cell? ⟨g3, 7, none⟩ = some (.int .i64 d5) := (unhide HA7).ub.c 7 _ rfl; have g38 : V7.cell? ⟨g3, 8, none⟩ = some (.int .i64 d6) := (unhide HA7).ub.c 8 _ rfl; have g39 : V7.cell? ⟨g3, 9, none⟩ = some (.int .i64 d7) := (unhide HA7).ub.c 9 _ rfl; have g310 : V7.cell? ⟨g3, 10, none⟩ = some (.string fn) := (unhide HA7).ub.c 10 _ rfl; have g311 : V7.cell? ⟨g3, 11, none⟩ = some (.string fd) := (unhide HA7).ub.c 11 _ rfl; have g312 : V7.cell? ⟨g3, 12, none⟩ = some (.string on) := (unhide HA7).ub.c 12 _ rfl; have g313 : V7.cell? ⟨g3, 13, none⟩ = some (.string od) := (unhide HA7).ub.c 13 _ rfl; have g314 : V7.cell? ⟨g3, 14, none⟩ = some (.int .i64 tk) := (unhide HA7).ub.c 14 _ rfl
  have g50 : V7.cell? ⟨g5, 0, none⟩ = some (.string nm) := (unhide HC7).ub.c 0 _ rfl; have g51 : V7.cell? ⟨g5, 1, none⟩ = some (.string sy) := (unhide HC7).ub.c 1 _ rfl; have g52 : V7.cell? ⟨g5, 2, none⟩ = some (.int .i64 d0) := (unhide HC7).ub.c 2 _ rfl; have g53 : V7.cell? ⟨g5, 3, none⟩ = some (.int .i64 d1) := (unhide HC7).ub.c 3 _ rfl; have g54 : V7.cell? ⟨g5, 4, none⟩ = some (.int .i64 d2) := (unhide HC7).ub.c 4 _ rfl; have g55 : V7.cell? ⟨g5, 5, none⟩ = some (.int .i64 d3) := (unhide HC7).ub.c 5 _ rfl; have g56 : V7.cell? ⟨g5, 6, none⟩ = some (.int .i64 d4) := (unhide HC7).ub.c 6 _ rfl; have g57 : V7.cell? ⟨g5, 7, none⟩ = some (.int .i64 d5) := (unhide HC7).ub.c 7 _ rfl; have g58 : V7.cell? ⟨g5, 8, none⟩ = some (.int .i64 d6) := (unhide HC7).ub.c 8 _ rfl; have g59 : V7.cell? ⟨g5, 9, none⟩ = some (.int .i64 d7) := (unhide HC7).ub.c 9 _ rfl; have g510 : V7.cell? ⟨g5, 10, none⟩ = some (.string fn) := (unhide HC7).ub.c 10 _ rfl; have g511 : V7.cell? ⟨g5, 11, none⟩ = some (.string fd) := (unhide HC7).ub.c 11 _ rfl; have g512 : V7.cell? ⟨g5, 12, none⟩ = some (.string on) := (unhide HC7).ub.c 12 _ rfl; have g513 : V7.cell? ⟨g5, 13, none⟩ = some (.string od) := (unhide HC7).ub.c 13 _ rfl; have g514 : V7.cell? ⟨g5, 14, none⟩ = some (.int .i64 tk) := (unhide HC7).ub.c 14 _ rfl
  have heq := eqlU nm sy d0 d1 d2 d3 d4 d5 d6 d7 fn fd on od tk
  cases ok
  all_goals
    go_wp2_with fail
    go_ret
    exact ⟨rfl, unhide HB7⟩
end Go.Proofs.YtlbfpjamfmghlaaDoor

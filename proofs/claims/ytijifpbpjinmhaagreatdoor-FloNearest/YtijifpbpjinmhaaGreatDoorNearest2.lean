/- flo: nearest (45) at a tenth; nearestTo (31), Near (21). -/
import Derived.Shelf.Strings.Builder1
import Derived.Shelf.Strings.Builder2
import Derived.Shelf.Small.Bits
import Derived.Shelf.Small.Wraps
import Derived.Shelf.Strings.BuilderF
import Derived.Shelf.Strings.BuilderK
import Derived.Shelf.Strings.Builder2Cap
import Derived.Shelf.Strconv.Itoa0
import Derived.Shelf.Strconv.Itoa1
import Derived.Shelf.LaysM
import Derived.Shelf.Strconv.Itoa2
import Derived.Shelf.Strconv.Itoa3
import Derived.Ground.MpProg
import Derived.Shelf.Pu.ParseUintPublic10
import Derived.Shelf.Pu.ErrVarParseUint
import Derived.Shelf.Strconv.AppendUint10
import Derived.Shelf.Strconv.AppendInt10
import Derived.Shelf.Strings.Prefix
import Derived.Ground.Names2Prog
import Derived.Shelf.Slices.SearchI
import Derived.Test.YtijifpbpjinmhaaGreatDoorProg
import Derived.Test.YtijifpbpjinmhaaGreatDoorRoom
import Derived.Test.YtijifpbpjinmhaaGreatDoorLong2
import Derived.Test.YtijifpbpjinmhaaGreatDoorText
import Derived.RangeFuncNested
import Derived.RangeFuncBound
import Derived.RangeFuncCalls
import Derived.RangeFuncLeaves
import Derived.RangeFuncFrom
import Derived.Shelf.Abstract
import Derived.Shelf.RegionOpen
import Derived.OwnWalkIn
import Derived.TacticsInMore
import Derived.LoopNIn
import Derived.LoopIn
import Derived.Laws.EntriesVeiled
set_option maxHeartbeats 8000000
set_option maxRecDepth 100000
namespace Go.Proofs
open Go.Shelf
def Tryz.laysPu14_ren : Go.Shelf.Ren := ⟨fun | 14 => 225 | 16 => 230 | 17 => 189 | 19 => 233 | 20 => 234 | 21 => 216 | 22 => 217 | 23 => 218 | 24 => 219 | 25 => 231 | 27 => 105 | 26 => 232 | 28 => 158 | 29 => 196 | 30 => 175 | 31 => 176 | 32 => 177 | 33 => 178 | 35 => 204 | 34 => 209 | 36 => 210 | 37 => 211 | 38 => 212 | 39 => 226 | 40 => 227 | n => n, fun | 9 => 9 | 3 => 3 | 22 => 41 | 24 => 165 | 25 => 233 | 4 => 4 | 34 => 223 | 5 => 5 | 36 => 109 | 37 => 46 | 0 => 0 | 39 => 226 | 21 => 21 | 44 => 237 | 47 => 210 | 50 => 248 | 48 => 246 | 2 => 2 | 52 => 190 | 55 => 193 | 59 => 221 | 60 => 205 | 20 => 20 | 61 => 222 | 65 => 243 | 66 => 244 | 67 => 64 | n => n, fun | 0 => 3 | 1 => 4 | 2 => 1 | 3 => 7 | 4 => 8 | n => n⟩
theorem Tryz.laysPu14 : Go.Proofs.LaysPu.n14 Tryz.prog Tryz.laysPu14_ren := {
  mixed := by kernel_rfl
  f14 := Tryz.func225.trans (congrArg some (by kernel_rfl))
  f16 := Tryz.func230.trans (congrArg some (by kernel_rfl))
  f17 := Tryz.func189.trans (congrArg some (by kernel_rfl))
  f19 := Tryz.func233.trans (congrArg some (by kernel_rfl))
  f20 := Tryz.func234.trans (congrArg some (by kernel_rfl))
  f21 := Tryz.func216.trans (congrArg some (by kernel_rfl))
  f22 := Tryz.func217.trans (congrArg some (by kernel_rfl))
  f23 := Tryz.func218.trans (congrArg some (by kernel_rfl))
  f24 := Tryz.func219.trans (congrArg some (by kernel_rfl))
  f25 := Tryz.func231.trans (congrArg some (by kernel_rfl))
  f26 := Tryz.func232.trans (congrArg some (by kernel_rfl))
  f27 := Tryz.func105.trans (congrArg some (by kernel_rfl))
  f28 := Tryz.func158.trans (congrArg some (by kernel_rfl))
  f29 := Tryz.func196.trans (congrArg some (by kernel_rfl))
  f30 := Tryz.func175.trans (congrArg some (by kernel_rfl))
  f31 := Tryz.func176.trans (congrArg some (by kernel_rfl))
  f32 := Tryz.func177.trans (congrArg some (by kernel_rfl))
  f33 := Tryz.func178.trans (congrArg some (by kernel_rfl))
  f34 := Tryz.func209.trans (congrArg some (by kernel_rfl))
  f35 := Tryz.func204.trans (congrArg some (by kernel_rfl))
  f36 := Tryz.func210.trans (congrArg some (by kernel_rfl))
  f37 := Tryz.func211.trans (congrArg some (by kernel_rfl))
  f38 := Tryz.func212.trans (congrArg some (by kernel_rfl))
  f39 := Tryz.func226.trans (congrArg some (by kernel_rfl))
  f40 := Tryz.func227.trans (congrArg some (by kernel_rfl))
  t0 := Tryz.underlying0
  a0 := Tryz.isAgg0
  z0 := Tryz.sizeOf0
  v0 := Tryz.zeroValue0
  i0 := by kernel_rfl
  t2 := Tryz.underlying2
  a2 := Tryz.isAgg2
  z2 := Tryz.sizeOf2
  v2 := Tryz.zeroValue2
  i2 := by kernel_rfl
  t3 := Tryz.underlying3
  a3 := Tryz.isAgg3
  z3 := Tryz.sizeOf3
  v3 := Tryz.zeroValue3
  i3 := by kernel_rfl
  t4 := Tryz.underlying4
  a4 := Tryz.isAgg4
  z4 := Tryz.sizeOf4
  v4 := Tryz.zeroValue4
  i4 := by kernel_rfl
  t5 := Tryz.underlying5
  a5 := Tryz.isAgg5
  z5 := Tryz.sizeOf5
  v5 := Tryz.zeroValue5
  i5 := by kernel_rfl
  t9 := Tryz.underlying9
  a9 := Tryz.isAgg9
  z9 := Tryz.sizeOf9
  v9 := Tryz.zeroValue9
  i9 := by kernel_rfl
  t20 := Tryz.underlying20
  a20 := Tryz.isAgg20
  z20 := Tryz.sizeOf20
  v20 := Tryz.zeroValue20
  i20 := by kernel_rfl
  t21 := Tryz.underlying21
  a21 := Tryz.isAgg21
  z21 := Tryz.sizeOf21
  v21 := Tryz.zeroValue21
  i21 := by kernel_rfl
  t22 := Tryz.underlying41
  a22 := Tryz.isAgg41
  z22 := Tryz.sizeOf41
  v22 := Tryz.zeroValue41
  i22 := by kernel_rfl
  t24 := Tryz.underlying165
  a24 := Tryz.isAgg165
  z24 := Tryz.sizeOf165
  v24 := Tryz.zeroValue165
  i24 := by kernel_rfl
  t25 := Tryz.underlying233
  a25 := Tryz.isAgg233
  z25 := Tryz.sizeOf233
  v25 := Tryz.zeroValue233
  i25 := by kernel_rfl
  t34 := Tryz.underlying223
  a34 := Tryz.isAgg223
  z34 := Tryz.sizeOf223
  v34 := Tryz.zeroValue223
  i34 := by kernel_rfl
  c34 := by kernel_rfl
  t36 := Tryz.underlying109
  a36 := Tryz.isAgg109
  z36 := Tryz.sizeOf109
  v36 := Tryz.zeroValue109
  i36 := by kernel_rfl
  t37 := Tryz.underlying46
  a37 := Tryz.isAgg46
  z37 := Tryz.sizeOf46
  v37 := Tryz.zeroValue46
  i37 := by kernel_rfl
  t39 := Tryz.underlying226
  a39 := Tryz.isAgg226
  z39 := Tryz.sizeOf226
  v39 := Tryz.zeroValue226
  i39 := by kernel_rfl
  t44 := Tryz.underlying237
  a44 := Tryz.isAgg237
  z44 := Tryz.sizeOf237
  v44 := Tryz.zeroValue237
  i44 := by kernel_rfl
  t47 := Tryz.underlying210
  a47 := Tryz.isAgg210
  z47 := Tryz.sizeOf210
  v47 := Tryz.zeroValue210
  i47 := by kernel_rfl
  t48 := Tryz.underlying246
  a48 := Tryz.isAgg246
  z48 := Tryz.sizeOf246
  v48 := Tryz.zeroValue246
  i48 := by kernel_rfl
  t50 := Tryz.underlying248
  a50 := Tryz.isAgg248
  z50 := Tryz.sizeOf248
  v50 := Tryz.zeroValue248
  i50 := by kernel_rfl
  t52 := Tryz.underlying190
  a52 := Tryz.isAgg190
  z52 := Tryz.sizeOf190
  v52 := Tryz.zeroValue190
  i52 := by kernel_rfl
  t55 := Tryz.underlying193
  a55 := Tryz.isAgg193
  z55 := Tryz.sizeOf193
  v55 := Tryz.zeroValue193
  i55 := by kernel_rfl
  t59 := Tryz.underlying221
  a59 := Tryz.isAgg221
  z59 := Tryz.sizeOf221
  v59 := Tryz.zeroValue221
  i59 := by kernel_rfl
  t60 := Tryz.underlying205
  a60 := Tryz.isAgg205
  z60 := Tryz.sizeOf205
  v60 := Tryz.zeroValue205
  i60 := by kernel_rfl
  t61 := Tryz.underlying222
  a61 := Tryz.isAgg222
  z61 := Tryz.sizeOf222
  t65 := Tryz.underlying243
  a65 := Tryz.isAgg243
  z65 := Tryz.sizeOf243
  v65 := Tryz.zeroValue243
  i65 := by kernel_rfl
  t66 := Tryz.underlying244
  a66 := Tryz.isAgg244
  z66 := Tryz.sizeOf244
  v66 := Tryz.zeroValue244
  i66 := by kernel_rfl
  t67 := Tryz.underlying64
  a67 := Tryz.isAgg64
  z67 := Tryz.sizeOf64
  v67 := Tryz.zeroValue64
  i67 := by kernel_rfl
  g0 := by kernel_rfl
  m0 := by kernel_rfl
  g1 := by kernel_rfl
  m1 := by kernel_rfl
  g2 := by kernel_rfl
  m2 := by kernel_rfl
  g3 := by kernel_rfl
  m3 := by kernel_rfl
  g4 := by kernel_rfl
  m4 := by kernel_rfl }
open Go.RowKit in
theorem Tryz.strconv_ParseUint_10_at64_ok (s : ByteArray) (hmax : s.size ≤ 9223372036854775806) (u : Nat) (h : Lib.parseUintB 64 s.data.toList = .ok u) (w : World) :
    Calls Tryz.prog 225 #[.string s, .int .i64 10, .int .i64 64] w fun e w' => e = .returned (.tuple #[.int .u64 u, .nilIface]) ∧ (w' = w ∨ w' = Lib.bytesWorld w 5 s) := Any.strconv_ParseUint_10_at64_ok Tryz.laysPu14 s hmax u h w
end Go.Proofs
namespace Go.Proofs.YtijifpbpjinmhaaGreatDoor
open Go.RowKit
attribute [local go_sem] run_bits run_from
theorem pu_below {w w2 : World} {s : ByteArray} (h : w2 = w ∨ w2 = Lib.bytesWorld w 5 s) : Below w.heap.size w w2 := by
  rcases h with rfl | rfl
  · exact Below.refl _ _
  · exact Joins.below_bytesWorld _ _ _ _ (Nat.le_refl _)
theorem natInt_ok (s : ByteArray) (u : Nat) (w : World) (hs : s.size ≤ 1000) (hr : Cub.rightB s.data.toList = true) (hp : Lib.parseUintB 64 s.data.toList = .ok u) :
    Calls Tryz.prog 207 #[.string s] w fun e w' => e = .returned (.tuple #[.int .u64 (u : Nat), .int .i64 0]) ∧ Below w.heap.size w w' := by
  have r1 := fun W => right_any s W (by unfold maxLen; omega)
  rw [hr] at r1
  have R1 := hide r1
  have HP := hide (fun W => Tryz.strconv_ParseUint_10_at64_ok s (by omega) u hp W)
  clear r1 hr hp
  go_enter Tryz.func207, Tryz.ntmps207
  go_wp2_with fail
  refine (unhide R1 _).mono ?_
  rintro e w' ⟨rfl, rfl⟩
  go_wp2_with fail
  refine (unhide HP _).mono ?_
  rintro e w2 ⟨rfl, hw⟩
  have HB : Hid (Below _ _ w2) := pu_below hw
  clear hw
  go_wp2
  go_ret2
  exact ⟨rfl, unhide HB⟩
theorem join_lo (w : World) : Calls Tryz.prog 208 #[.int .u64 7205759403792793, .int .i64 (-56)] w fun e w' => e = .returned (.float .f64 4591870180066957721) ∧ w' = w := by
  go_enter Tryz.func208, Tryz.ntmps208
  go_wp2
  go_ret
  exact ⟨by simp, rfl⟩
theorem text_c (v : Value) (w : World) (h : IsBig w v 57646075230342348) (ht : Tab w) : Calls Tryz.prog 39 #[v] w fun e w' => e = .returned (.string ⟨#[53, 55, 54, 52, 54, 48, 55, 53, 50, 51, 48, 51, 52, 50, 51, 52, 56]⟩) ∧ Below w.heap.size w w' := by
  have e := text_any v 57646075230342348 3 w h (by decide) (by decide +kernel) ht
  rwa [show Lib.decDigits 57646075230342348 = [53, 55, 54, 52, 54, 48, 55, 53, 50, 51, 48, 51, 52, 50, 51, 52, 56] by decide +kernel] at e
theorem divModC (x y : Value) (m n d k : Nat) (w : World) (hx : IsBig w x m) (hy : IsBig w y n) (hk : k ≤ 500000) (hm : m < 1000000000 ^ k) (hn : 0 < n) (hd : m / n = d) :
    Calls Tryz.prog 161 #[x, y] w fun e w' => ∃ a1 n1 c1 a2 n2 c2, e = .returned (.tuple #[.agg #[.slice a1 n1 c1], .agg #[.slice a2 n2 c2]]) ∧ IsBig w' (.agg #[.slice a1 n1 c1]) d ∧ Below w.heap.size w w' := by
  refine (divMod_core x y m n k w hx hy (by omega) hm hn (fun h1 h2 => long_any m n k hk hm h1 h2)).mono ?_
  rintro e w' ⟨a1, n1, c1, a2, n2, c2, rfl, h1, _, hb⟩
  rw [hd] at h1
  exact ⟨a1, n1, c1, a2, n2, c2, rfl, h1, hb⟩
theorem floor_tenth (a1 : Option Addr) (l1 c1 : Nat) (a2 : Option Addr) (l2 c2 : Nat) (w : World) (hp : IsBig w (.agg #[.slice a1 l1 c1]) 1) (hq : IsBig w (.agg #[.slice a2 l2 c2]) 10) (htab : Tab w) :
    Calls Tryz.prog 174 #[.agg #[.slice a1 l1 c1, .slice a2 l2 c2]] w fun e w' => e = .returned (.float .f64 4591870180066957721) ∧ Below w.heap.size w w' := by
  have hta : ∀ W, Below w.heap.size w W → Tab W := fun W hb => htab.later hb
  have HTAB := hide hta
  have hP1 : (1 : Nat) < 1000000000 ^ 50 ∧ 10 < 1000000000 ^ 50 ∧ 576460752303423488 < 1000000000 ^ 50 ∧ 1 * 576460752303423488 < 1000000000 ^ 50 ∧ 10 * 1 < 1000000000 ^ 50 := by decide +kernel
  obtain ⟨V, hV⟩ : ∃ V, V = (w.alloc (.cells #[.slice a1 l1 c1, .slice a2 l2 c2] 54)) := ⟨_, rfl⟩
  have HS0 : Hid (St w [(w.heap.size, 54, #[.slice a1 l1 c1, .slice a2 l2 c2])] [(.agg #[.slice a2 l2 c2], 10), (.agg #[.slice a1 l1 c1], 1)] V) := by rw [hV]; have h := ((((St.nil (Below.refl _ w)).push hp).push hq).new #[.slice a1 l1 c1, .slice a2 l2 c2] 54); (try simp only [World.size_alloc] at h); exact h
  have HV := hide hV
  have HP1 := hide hP1
  clear hV hp hq htab hP1 hta
  go_enter Tryz.func174, Tryz.ntmps174
  have HTW := hide (fun W => twoToP 59 576460752303423488 50 (by decide) (by decide +kernel) (by decide) (by decide) (by decide +kernel) (by decide +kernel) W)
  go_upto_region 1 with fail
  rw [← unhide HV]
  clear HV
  have u0 := ((unhide HS0).at 0 rfl).ub.c 0 _ rfl
  have u1 := ((unhide HS0).at 0 rfl).ub.c 1 _ rfl
  go_upto_region 3 with (have hchk := HS0; clear hchk; go_at_call 85; go_must (refine (isZero_any _ 1 _ ((unhide HS0).bgt 1 rfl)).mono ?_; rintro e U1 ⟨rfl, hb⟩; have HS1 := hide ((unhide HS0).later hb); clear HS0; clear hb u0 u1))
  have u0 := ((unhide HS1).at 0 rfl).ub.c 0 _ rfl
  have u1 := ((unhide HS1).at 0 rfl).ub.c 1 _ rfl
  have hmx : max (-59 : Int) (-1074) = -59 := by decide
  have hmn : min (59 : Int) 1074 = 59 := by decide
  have hw59 : IntKind.i64.wrap 59 = 59 := by decide
  go_upto_region 4 with (have hchk := HS1; clear hchk; go_at_call 206; go_must (refine (bits_tenth _ _ _ _ _ _ 1 10 50 _ ((unhide HS1).bgt 1 rfl) ((unhide HS1).bgt 0 rfl) (by decide) (unhide HP1).1 (unhide HP1).2.1 (by decide +kernel) (by decide +kernel)).mono ?_; rintro e U2 ⟨rfl, hb⟩; have HS2 := hide ((unhide HS1).later hb); clear HS1; clear hb u0 u1))
  go_cut [4] from 17 (fun s4 wx => ∃ g4 a5 l5 c5 a6 l6 c6, s4 = .pointer (some ⟨g4, 0, none⟩) ∧ Hid (St w [(g4, 54, #[.slice a5 l5 c5, .slice a6 l6 c6]), (w.heap.size, 54, #[.slice a1 l1 c1, .slice a2 l2 c2])] [(.agg #[.slice a5 l5 c5], 1 * 576460752303423488), (.agg #[.slice a6 l6 c6], 10 * 1)] wx))
  case first =>
    refine region_reads 6 (fun _ => True) (fun W' => W'.cell? ⟨w.heap.size, 0, none⟩ = some (.slice a1 l1 c1) ∧ W'.cell? ⟨w.heap.size, 1, none⟩ = some (.slice a2 l2 c2)) 7 rfl (by kernel_rfl) ?_
    have HS3 := hide ((unhide HS2).later ((Below.refl _ _).drew))
    clear HS2
    generalize U2.drew = X0 at *
    refine wpR_take7 (i := 0) (oi := _) (v := .agg #[.slice a1 l1 c1, .slice a2 l2 c2]) rfl (by kernel_rfl) (by kernel_rfl) (by kernel_rfl) (by kernel_rfl) (fun _ _ _ h => h) (Or.inl ⟨by rfl, ?_⟩) ⟨trivial, ⟨((unhide HS3).at 0 rfl).ub.c 0 _ rfl, ((unhide HS3).at 0 rfl).ub.c 1 _ rfl⟩⟩ ?_
    · intro W' hW
      go_split_ands
      go_simp
    refine wpR_take7 (i := 1) (oi := _) (v := .int .i64 (-59)) rfl (by kernel_rfl) (by kernel_rfl) (by kernel_rfl) (by kernel_rfl) (fun _ _ _ h => h) (Or.inl ⟨by rfl, ?_⟩) ⟨trivial, ⟨((unhide HS3).at 0 rfl).ub.c 0 _ rfl, ((unhide HS3).at 0 rfl).ub.c 1 _ rfl⟩⟩ ?_
    · intro W' hW
      go_split_ands
      go_simp
    refine wpR_take7 (i := 2) (oi := _) (v := .int .i64 59) rfl (by kernel_rfl) (by kernel_rfl) (by kernel_rfl) (by kernel_rfl) (fun _ _ _ h => h) (Or.inl ⟨by rfl, ?_⟩) ⟨trivial, ⟨((unhide HS3).at 0 rfl).ub.c 0 _ rfl, ((unhide HS3).at 0 rfl).ub.c 1 _ rfl⟩⟩ ?_
    · intro W' hW
      go_split_ands
      go_simp
    refine wpR_two (i := 3) (j := 5) (by kernel_rfl) rfl rfl rfl rfl (fun K hK => ?_) (fun K hK => ?_) 
    · go_simp
      refine (unhide HTW _).mono ?_
      rintro e X1 ⟨_, rfl, ⟨a3, l3, c3, a4, l4, c4, rfl, hv1, hv2⟩, hb⟩
      have HS4 := hide ((((unhide HS3).later hb).push hv1).push hv2)
      clear HS3
      clear hv1 hv2 hb
      refine hK _ _ ⟨trivial, ⟨((unhide HS4).at 0 rfl).ub.c 0 _ rfl, ((unhide HS4).at 0 rfl).ub.c 1 _ rfl⟩⟩ ?_
      clear hK K
      refine wpR_two (i := 4) (j := 5) (by kernel_rfl) rfl rfl rfl rfl (fun K hK => ?_) (fun K hK => ?_) 
      · go_simp
        refine (times_any _ _ _ _ _ _ _ _ _ _ _ _ 1 10 576460752303423488 1 50 _ ((unhide HS4).bgt 3 rfl) ((unhide HS4).bgt 2 rfl) ((unhide HS4).bgt 1 rfl) ((unhide HS4).bgt 0 rfl) (by decide) (unhide HP1).1 (unhide HP1).2.1 (unhide HP1).2.2.1 (unhide HP1).1).mono ?_
        rintro e X2 ⟨_, rfl, ⟨a5, l5, c5, a6, l6, c6, rfl, hv1, hv2⟩, hb⟩
        have HS5 := hide ((((unhide HS4).later hb).push hv2).push hv1)
        clear HS4
        clear hv1 hv2 hb
        refine hK _ _ ⟨trivial, ⟨((unhide HS5).at 0 rfl).ub.c 0 _ rfl, ((unhide HS5).at 0 rfl).ub.c 1 _ rfl⟩⟩ ?_
        clear hK K
        refine wpR_op (i := 5) (o := _) (by kernel_rfl) rfl rfl (fun K hK => ?_)
        go_simp
        have HS6 := hide ((unhide HS5).new #[.slice none 0 0, .slice none 0 0] 54)
        clear HS5
        generalize X2.alloc (.cells #[.slice none 0 0, .slice none 0 0] 54) = X3 at *
        generalize X2.heap.size = g4 at *
        refine hK _ _ ⟨trivial, ⟨((unhide HS6).at 1 rfl).ub.c 0 _ rfl, ((unhide HS6).at 1 rfl).ub.c 1 _ rfl⟩⟩ ?_
        clear hK K
        refine wpR_late (i := 6) (o := _) (by kernel_rfl) rfl rfl (by kernel_rfl) (fun K hK => ?_)
        refine wp_store_row 54 (.tmp 4) (.tmp 21) rfl g4 #[.slice a5 l5 c5, .slice a6 l6 c6] rfl rfl 54 _ ((unhide HS6).at 0 rfl) (by rw [info59]; rfl) rfl (by kernel_rfl) ?_
        have HS7 := hide (((unhide HS6)).set (nz2 _ _ _ _ _ _) #[.slice a5 l5 c5, .slice a6 l6 c6])
        clear HS6
        generalize X3.setRow g4 #[.slice a5 l5 c5, .slice a6 l6 c6] = X4 at *
        refine hK _ _ (⟨((unhide HS7).at 1 rfl).ub.c 0 _ rfl, ((unhide HS7).at 1 rfl).ub.c 1 _ rfl⟩) ?_
        clear hK K
        refine wpR_done (by kernel_rfl) ?_
        go_wp2_with fail
        go_meet
        exact ⟨g4, a5, l5, c5, a6, l6, c6, rfl, hide ((unhide HS7).first 2)⟩
      · go_simp
        have HS5 := hide ((unhide HS4).new #[.slice none 0 0, .slice none 0 0] 54)
        clear HS4
        generalize X1.alloc (.cells #[.slice none 0 0, .slice none 0 0] 54) = X5 at *
        generalize X1.heap.size = g4 at *
        refine hK _ _ ⟨trivial, ⟨((unhide HS5).at 1 rfl).ub.c 0 _ rfl, ((unhide HS5).at 1 rfl).ub.c 1 _ rfl⟩⟩ ?_
        clear hK K
        refine wpR_op (i := 4) (o := _) (by kernel_rfl) rfl rfl (fun K hK => ?_)
        go_simp
        refine (times_any _ _ _ _ _ _ _ _ _ _ _ _ 1 10 576460752303423488 1 50 _ ((unhide HS5).bgt 3 rfl) ((unhide HS5).bgt 2 rfl) ((unhide HS5).bgt 1 rfl) ((unhide HS5).bgt 0 rfl) (by decide) (unhide HP1).1 (unhide HP1).2.1 (unhide HP1).2.2.1 (unhide HP1).1).mono ?_
        rintro e X6 ⟨_, rfl, ⟨a5, l5, c5, a6, l6, c6, rfl, hv1, hv2⟩, hb⟩
        have HS6 := hide ((((unhide HS5).later hb).push hv2).push hv1)
        clear HS5
        clear hv1 hv2 hb
        refine hK _ _ ⟨trivial, ⟨((unhide HS6).at 1 rfl).ub.c 0 _ rfl, ((unhide HS6).at 1 rfl).ub.c 1 _ rfl⟩⟩ ?_
        clear hK K
        refine wpR_late (i := 6) (o := _) (by kernel_rfl) rfl rfl (by kernel_rfl) (fun K hK => ?_)
        refine wp_store_row 54 (.tmp 4) (.tmp 21) rfl g4 #[.slice a5 l5 c5, .slice a6 l6 c6] rfl rfl 54 _ ((unhide HS6).at 0 rfl) (by rw [info59]; rfl) rfl (by kernel_rfl) ?_
        have HS7 := hide (((unhide HS6)).set (nz2 _ _ _ _ _ _) #[.slice a5 l5 c5, .slice a6 l6 c6])
        clear HS6
        generalize X6.setRow g4 #[.slice a5 l5 c5, .slice a6 l6 c6] = X7 at *
        refine hK _ _ (⟨((unhide HS7).at 1 rfl).ub.c 0 _ rfl, ((unhide HS7).at 1 rfl).ub.c 1 _ rfl⟩) ?_
        clear hK K
        refine wpR_done (by kernel_rfl) ?_
        go_wp2_with fail
        go_meet
        exact ⟨g4, a5, l5, c5, a6, l6, c6, rfl, hide ((unhide HS7).first 2)⟩
    · go_simp
      have HS4 := hide ((unhide HS3).new #[.slice none 0 0, .slice none 0 0] 54)
      clear HS3
      generalize X0.alloc (.cells #[.slice none 0 0, .slice none 0 0] 54) = X8 at *
      generalize X0.heap.size = g4 at *
      refine hK _ _ ⟨trivial, ⟨((unhide HS4).at 1 rfl).ub.c 0 _ rfl, ((unhide HS4).at 1 rfl).ub.c 1 _ rfl⟩⟩ ?_
      clear hK K
      refine wpR_op (i := 3) (o := _) (by kernel_rfl) rfl rfl (fun K hK => ?_)
      go_simp
      refine (unhide HTW _).mono ?_
      rintro e X9 ⟨_, rfl, ⟨a3, l3, c3, a4, l4, c4, rfl, hv1, hv2⟩, hb⟩
      have HS5 := hide ((((unhide HS4).later hb).push hv1).push hv2)
      clear HS4
      clear hv1 hv2 hb
      refine hK _ _ ⟨trivial, ⟨((unhide HS5).at 1 rfl).ub.c 0 _ rfl, ((unhide HS5).at 1 rfl).ub.c 1 _ rfl⟩⟩ ?_
      clear hK K
      refine wpR_op (i := 4) (o := _) (by kernel_rfl) rfl rfl (fun K hK => ?_)
      go_simp
      refine (times_any _ _ _ _ _ _ _ _ _ _ _ _ 1 10 576460752303423488 1 50 _ ((unhide HS5).bgt 3 rfl) ((unhide HS5).bgt 2 rfl) ((unhide HS5).bgt 1 rfl) ((unhide HS5).bgt 0 rfl) (by decide) (unhide HP1).1 (unhide HP1).2.1 (unhide HP1).2.2.1 (unhide HP1).1).mono ?_
      rintro e X10 ⟨_, rfl, ⟨a5, l5, c5, a6, l6, c6, rfl, hv1, hv2⟩, hb⟩
      have HS6 := hide ((((unhide HS5).later hb).push hv2).push hv1)
      clear HS5
      clear hv1 hv2 hb
      refine hK _ _ ⟨trivial, ⟨((unhide HS6).at 1 rfl).ub.c 0 _ rfl, ((unhide HS6).at 1 rfl).ub.c 1 _ rfl⟩⟩ ?_
      clear hK K
      refine wpR_late (i := 6) (o := _) (by kernel_rfl) rfl rfl (by kernel_rfl) (fun K hK => ?_)
      refine wp_store_row 54 (.tmp 4) (.tmp 21) rfl g4 #[.slice a5 l5 c5, .slice a6 l6 c6] rfl rfl 54 _ ((unhide HS6).at 0 rfl) (by rw [info59]; rfl) rfl (by kernel_rfl) ?_
      have HS7 := hide (((unhide HS6)).set (nz2 _ _ _ _ _ _) #[.slice a5 l5 c5, .slice a6 l6 c6])
      clear HS6
      generalize X10.setRow g4 #[.slice a5 l5 c5, .slice a6 l6 c6] = X11 at *
      refine hK _ _ (⟨((unhide HS7).at 1 rfl).ub.c 0 _ rfl, ((unhide HS7).at 1 rfl).ub.c 1 _ rfl⟩) ?_
      clear hK K
      refine wpR_done (by kernel_rfl) ?_
      go_wp2_with fail
      go_meet
      exact ⟨g4, a5, l5, c5, a6, l6, c6, rfl, hide ((unhide HS7).first 2)⟩
  case rest =>
    obtain ⟨g4, a5, l5, c5, a6, l6, c6, rfl, HS0⟩ := hcut
    generalize wc = Y0 at *
    have HQ : Hid (1 * 576460752303423488 / (10 * 1) = 57646075230342348) := (by decide +kernel : 1 * 576460752303423488 / (10 * 1) = 57646075230342348)
    have u0 := ((unhide HS0).at 0 rfl).ub.c 0 _ rfl
    have u1 := ((unhide HS0).at 0 rfl).ub.c 1 _ rfl
    go_upto_region 6 with (have hchk := HS0; clear hchk; go_at_call 161; go_must (refine (divModC _ _ (1 * 576460752303423488) (10 * 1) 57646075230342348 50 _ ((unhide HS0).bgt 0 rfl) ((unhide HS0).bgt 1 rfl) (by decide) (unhide HP1).2.2.2.1 (by decide) (unhide HQ)).mono ?_; rintro e Y1 ⟨a7, l7, c7, a8, l8, c8, rfl, hv1, hb⟩; have HS1 := hide (((unhide HS0).later hb).push hv1); clear HS0; clear hv1 hb u0 u1))
    have HS2 : Hid (St w [(Y1.heap.size + 1, 51, #[.slice a8 l8 c8]), (Y1.heap.size, 51, #[.slice a7 l7 c7]), (g4, 54, #[.slice a5 l5 c5, .slice a6 l6 c6]), (w.heap.size, 54, #[.slice a1 l1 c1, .slice a2 l2 c2])] [(.agg #[.slice a7 l7 c7], 57646075230342348), (.agg #[.slice a5 l5 c5], 1 * 576460752303423488), (.agg #[.slice a6 l6 c6], 10 * 1)] ((Y1.alloc (.cells #[.slice a7 l7 c7] 51)).alloc (.cells #[.slice a8 l8 c8] 51))) := by have h := ((unhide HS1).new #[.slice a7 l7 c7] 51).new #[.slice a8 l8 c8] 51; simp only [World.size_alloc] at h; exact h
    clear HS1
    generalize (Y1.alloc (.cells #[.slice a7 l7 c7] 51)).alloc (.cells #[.slice a8 l8 c8] 51) = Y2 at *
    generalize Y1.heap.size = g5 at *
    have u0 := ((unhide HS2).at 1 rfl).ub.c 0 _ rfl
    go_wp2_with (first
      | (have hchk := HS3; clear hchk; go_at_call 207; go_must (refine (natInt_ok ⟨#[53, 55, 54, 52, 54, 48, 55, 53, 50, 51, 48, 51, 52, 50, 51, 52, 56]⟩ 57646075230342348 _ (by decide) (by decide +kernel) (by decide +kernel)).mono ?_; rintro e Y4 ⟨rfl, hb⟩; have HS4 := hide ((unhide HS3).later hb); clear HS3; clear hb))
      | (have hchk := HS2; clear hchk; go_at_call 39; go_must (refine (text_c _ _ ((unhide HS2).bgt 0 rfl) (unhide HTAB _ (unhide HS2).below)).mono ?_; rintro e Y3 ⟨rfl, hb⟩; have HS3 := hide ((unhide HS2).later hb); clear HS2; clear hb u0)))
    go_loopw [7, 3] (fun m e wr => ((m = .int .u64 57646075230342348 ∧ e = .int .i64 (-59)) ∨ (m = .int .u64 28823037615171174 ∧ e = .int .i64 (-58)) ∨ (m = .int .u64 14411518807585587 ∧ e = .int .i64 (-57)) ∨ (m = .int .u64 7205759403792793 ∧ e = .int .i64 (-56))) ∧ Hid (Below w.heap.size w wr)) (fun m _ _ => (intOf m).toNat)
    case atStart => exact ⟨Or.inl ⟨rfl, rfl⟩, (unhide HS4).below⟩
    case round =>
      obtain ⟨h, HBW⟩ := hrel
      rcases h with ⟨rfl, rfl⟩ | ⟨rfl, rfl⟩ | ⟨rfl, rfl⟩ | ⟨rfl, rfl⟩
      · go_wp2_with fail
        go_roundw
        case rel => exact ⟨Or.inr (Or.inl ⟨rfl, rfl⟩), HBW⟩
        case measure => decide
      · go_wp2_with fail
        go_roundw
        case rel => exact ⟨Or.inr (Or.inr (Or.inl ⟨rfl, rfl⟩)), HBW⟩
        case measure => decide
      · go_wp2_with fail
        go_roundw
        case rel => exact ⟨Or.inr (Or.inr (Or.inr (⟨rfl, rfl⟩))), HBW⟩
        case measure => decide
      · go_wp2_with (go_at_call 208; go_must (refine (join_lo _).mono ?_; rintro e ww ⟨rfl, rfl⟩))
        go_ret
        exact ⟨rfl, unhide HBW⟩
end Go.Proofs.YtijifpbpjinmhaaGreatDoor
namespace Go.Proofs.YtijifpbpjinmhaaGreatDoor
open Go.RowKit Go.Shelf
theorem OwnU.kept {A B : World} {g ty : Nat} {vs : Array Value} {row : Option Nat} (h : OwnU A g ty vs) (hg : A.grownBy B row) (hr : ∀ r, row = some r → ∃ o : Obj, A.heap[r]? = some o ∧ o.isCells = false) : OwnU B g ty vs := by
  refine (hg.block g h.lt (fun e => ?_)).trans h
  obtain ⟨o, h1, h2⟩ := hr g (by first | exact e | exact e.symm)
  unfold OwnU at h
  rw [h] at h1
  cases h1
  cases h2
def P1074 : Nat := 2 ^ 1074
theorem P_is : 2 ^ 1074 = P1074 := by delta P1074; exact Eq.refl _
def szN (f : Nat) : Nat × Nat := if f = 4591870180066957721 then (7205759403792793 * 1, 1 * 2 ^ 56) else if f = 4591870180066957722 then (7205759403792794 * 1, 1 * 2 ^ 56) else (0 * 1, 1 * P1074)
def dN (f : Nat) : Nat := if 1 * (szN f).2 < (szN f).1 * 10 then (szN f).1 * 10 - 1 * (szN f).2 else 1 * (szN f).2 - (szN f).1 * 10
def cOf (f g : Nat) : Int := Cub.cmpN (dN f * (szN g).2) (dN g * (szN f).2)
def bestStep (g f : Nat) : Nat := if nearO (cOf f g) f then f else g
def F3 (f : Nat) : Prop := f = 0 ∨ f = 4591870180066957721 ∨ f = 4591870180066957722
theorem size_any (f : Nat) (h : F3 f) : SizeAns f (szN f).1 (szN f).2 := by
  rcases h with rfl | rfl | rfl
  · exact sizeZ P1074 P_is (by decide +kernel)
  · exact size_lo
  · exact size_hi
theorem sz_lt (f : Nat) (h : F3 f) : (szN f).1 < 1000000000 ^ 50 ∧ (szN f).2 < 1000000000 ^ 50 := by
  rcases h with rfl | rfl | rfl <;> decide +kernel
theorem dN_lt (f : Nat) (h : F3 f) : dN f < 1000000000 ^ 100 ∧ (szN f).2 < 1000000000 ^ 100 := by
  rcases h with rfl | rfl | rfl <;> decide +kernel
theorem cmp3 (m n : Nat) : Cub.cmpN m n = -1 ∨ Cub.cmpN m n = 0 ∨ Cub.cmpN m n = 1 := by unfold Cub.cmpN; split <;> (try split) <;> simp
theorem away3 (a1 : Option Addr) (l1 c1 : Nat) (a2 : Option Addr) (l2 c2 f : Nat) (w : World) (hf : F3 f) (hp : IsBig w (.agg #[.slice a1 l1 c1]) 1) (hq : IsBig w (.agg #[.slice a2 l2 c2]) 10) :
    Calls Tryz.prog 126 #[.agg #[.slice a1 l1 c1, .slice a2 l2 c2], .float .f64 f] w fun e w' => ∃ v, e = .returned v ∧ IsSz w' v (dN f) (szN f).2 ∧ Below w.heap.size w w' :=
  away_any a1 l1 c1 a2 l2 c2 1 10 (szN f).1 (szN f).2 50 f w hp hq (size_any f hf) (by decide) ⟨by decide +kernel, by decide +kernel, (sz_lt f hf).1, (sz_lt f hf).2⟩
theorem nearer3 (a1 : Option Addr) (l1 c1 : Nat) (a2 : Option Addr) (l2 c2 f g gx : Nat) (w : World) (hf : F3 f) (hg : F3 g) (hx : OwnU w gx 54 #[.slice a1 l1 c1, .slice a2 l2 c2]) (hp : IsBig w (.agg #[.slice a1 l1 c1]) 1) (hq : IsBig w (.agg #[.slice a2 l2 c2]) 10) :
    Calls Tryz.prog 125 #[.float .f64 f, .float .f64 g, .pointer (some ⟨gx, 0, none⟩)] w fun e w' => e = .returned (.bool (nearO (cOf f g) f)) ∧ Below w.heap.size w w' :=
  nearer_any a1 l1 c1 a2 l2 c2 1 10 (dN f) (szN f).2 (dN g) (szN g).2 100 f g gx (cOf f g) w hx hp hq (fun W hb => away3 _ _ _ _ _ _ f W hf (hp.later hb) (hq.later hb)) (fun W hb => away3 _ _ _ _ _ _ g W hg (hp.later hb) (hq.later hb)) (by decide) ⟨(dN_lt f hf).1, (dN_lt f hf).2, (dN_lt g hg).1, (dN_lt g hg).2⟩ rfl (cmp3 _ _)
abbrev LH := { x : Nat // x = 4591870180066957721 ∨ x = 4591870180066957722 }
def lo : LH := ⟨4591870180066957721, Or.inl rfl⟩
def hi : LH := ⟨4591870180066957722, Or.inr rfl⟩
def bestOf (l : List LH) : Nat := l.foldl (fun g x => bestStep g x.1) 0
theorem bestOf_snoc (l : List LH) (x : LH) : bestOf (l ++ [x]) = bestStep (bestOf l) x.1 := by simp [bestOf]
theorem LH.f3 (x : LH) : F3 x.1 := by rcases x.2 with h | h <;> simp [F3, h]
theorem bestStep_f3 (g : Nat) (x : LH) (h : F3 g) : F3 (bestStep g x.1) := by
  unfold bestStep
  split
  · exact x.f3
  · exact h
theorem bestOf_f3 (l : List LH) : F3 (bestOf l) := by
  suffices h : ∀ (l : List LH) (g : Nat), F3 g → F3 (l.foldl (fun g x => bestStep g x.1) g) from h l 0 (Or.inl rfl)
  intro l
  induction l with
  | nil => exact fun g h => h
  | cons x t ih => exact fun g h => ih _ (bestStep_f3 g x h)
attribute [local go_sem] Oper.semAt_some
theorem around_any (a1 : Option Addr) (l1 c1 : Nat) (a2 : Option Addr) (l2 c2 : Nat) (w : World) : Calls Tryz.prog 127 #[.agg #[.slice a1 l1 c1, .slice a2 l2 c2]] w fun e w' => e = .returned (.func (.func 173) #[] #[.pointer (some ⟨w.heap.size, 0, none⟩)]) ∧ w' = w.alloc (.cells #[.slice a1 l1 c1, .slice a2 l2 c2] 54) := by
  go_enter Tryz.func127, Tryz.ntmps127
  go_wp2
  go_ret
  exact ⟨rfl, rfl⟩
theorem next_lo (w : World) : Calls Tryz.prog 22 #[.float .f64 4591870180066957721, .bool true] w fun e w' => e = .returned (.float .f64 4591870180066957722) ∧ w' = w := by
  have := next_any 4591870180066957721 true (by decide) w
  rwa [show nextF 4591870180066957721 true = 4591870180066957722 by decide +kernel] at this
theorem grown_of {w w' : World} (h : Below w.heap.size w w') : w.grownBy w' none := by
  first | exact ⟨h.os, h.tape, h.output, h.size, fun k hk _ => h.block k hk⟩ | skip
theorem around1_stops (n₀ b : Nat) (a1 : Option Addr) (l1 c1 : Nat) (a2 : Option Addr) (l2 c2 : Nat) (w : World) (ho : OwnU w b 54 #[.slice a1 l1 c1, .slice a2 l2 c2]) (hp : IsBig w (.agg #[.slice a1 l1 c1]) 1) (hq : IsBig w (.agg #[.slice a2 l2 c2]) 10) (htab : Tab w) :
    SeqStopsK Fence.wide 2 Tryz.prog 173 #[.pointer (some ⟨b, 0, none⟩)] (fun x : LH => #[.float .f64 x.1]) (Below n₀) (fun xs => xs = [lo, hi]) (fun _ => True) 2 w := fun l J Jx W hW hJ hJx hY h0 => by
  have HFL := hide (floor_tenth a1 l1 c1 a2 l2 c2 W (hp.later hW) (hq.later hW) (htab.later hW))
  have u0 : W.cell? ⟨b, 0, none⟩ = some (.slice a1 l1 c1) := (ho.later hW).ub.c 0 _ rfl
  have u1 : W.cell? ⟨b, 1, none⟩ = some (.slice a2 l2 c2) := (ho.later hW).ub.c 1 _ rfl
  have hlt : (FloatKind.f64.format.order 4591870180066957721 9218868437227405311 == some Ordering.lt) = true := by decide +kernel
  clear ho hp hq htab
  refine callsIn_of_wp Tryz.func173 rfl trivial ?_ rfl
  simp only [Tryz.ntmps173, List.size_toArray, List.length_cons, List.length_nil, Nat.reduceAdd, Nat.reduceSub, Array.replicate_succ, Array.replicate_zero, List.push_toArray, List.append_toArray, List.nil_append, List.cons_append]
  gi_wp2_with (refine ⟨trivial, ?_⟩; gi_at_call 174; refine (callsIn_wide.2 (unhide HFL)).mono ?_; rintro e W1 ⟨rfl, hb⟩; have h01 : J [] W1 := hJ _ _ _ none h0 (grown_of hb) (fun r e => by cases e); clear u0 u1 hb; obtain ⟨f1, t1, as1, b1, hy1, hR1⟩ := hY [] lo W1 h01 (by simp); dsimp only [lo] at hy1)
  refine hR1.mono ?_
  rintro e W2 (⟨rfl, hJ2, _⟩ | ⟨rfl, hx2⟩)
  · gi_wp2_with (refine ⟨trivial, ?_⟩; gi_at_call 22; refine (callsIn_wide.2 (next_lo _)).mono ?_; rintro e W3 ⟨rfl, rfl⟩; obtain ⟨f2, t2, as2, b2, hy2, hR2⟩ := hY [lo] hi _ hJ2 (by simp); dsimp only [hi] at hy2)
    refine hR2.mono ?_
    rintro e W4 (⟨rfl, hJ4, _⟩ | ⟨rfl, hx4⟩)
    · gi_wp2
      go_end0
      exact ⟨⟨_, rfl⟩, .inl ⟨[lo, hi], rfl, hJ4⟩⟩
    · gi_wp2
      go_end0
      exact ⟨⟨_, rfl⟩, .inr ⟨[lo, hi], trivial, hx4⟩⟩
  · gi_wp2
    go_end0
    exact ⟨⟨_, rfl⟩, .inr ⟨[lo], trivial, hx2⟩⟩
end Go.Proofs.YtijifpbpjinmhaaGreatDoor
namespace Go.Proofs.YtijifpbpjinmhaaGreatDoor
open Go.RowKit Go.Shelf
theorem run_store_float (P : Program) (w : World) (a : Addr) (m : Mode) (k : FloatKind) (b : Nat) : (store a (.float k b) m).run P w = stored P w a (.float k b) m := run_store P w a _ m rfl
attribute [local go_sem] Oper.semAt_some run_store_float
theorem best_all : bestOf [lo, hi] = 4591870180066957722 := by decide +kernel
theorem keeps_below {W W' : World} (h : Below W.heap.size W W') : KeepsOthers W W' := ⟨h.size, fun k _ hk _ => (h.block k (Array.getElem?_eq_some_iff.1 hk).1).trans hk⟩
theorem nearest_tenth (a1 : Option Addr) (l1 c1 : Nat) (a2 : Option Addr) (l2 c2 : Nat) (w : World) (hp : IsBig w (.agg #[.slice a1 l1 c1]) 1) (hq : IsBig w (.agg #[.slice a2 l2 c2]) 10) (htab : Tab w) :
    Calls Tryz.prog 76 #[.agg #[.slice a1 l1 c1, .slice a2 l2 c2]] w fun e w' => e = .returned (.float .f64 4591870180066957722) ∧ Below w.heap.size w w' := by
  refine (callsIn_wide (n := 3)).1 ?_
  refine callsIn_of_wp_marks Tryz.func76 rfl trivial ?_ rfl
  simp only [Tryz.ntmps76, List.size_toArray, List.length_cons, List.length_nil, Nat.reduceAdd, Nat.reduceSub, Array.replicate_succ, Array.replicate_zero, List.push_toArray, List.append_toArray, List.nil_append, List.cons_append]
  gi_wp2_with (refine ⟨trivial, ?_⟩; gi_at_call 127; refine (callsIn_wide.2 (around_any _ _ _ _ _ _ _)).mono ?_; rintro e w' ⟨rfl, rfl⟩)
  obtain ⟨V, hV⟩ : ∃ V, V = (((w.alloc (.cells #[.slice a1 l1 c1, .slice a2 l2 c2] 54)).alloc (.cells #[.func (.func 125) #[] #[.pointer (some ⟨w.heap.size, 0, none⟩)]] 28)).alloc (.cells #[.float .f64 0] 24)).alloc (.cells #[.slice a1 l1 c1, .slice a2 l2 c2] 54) := ⟨_, rfl⟩
  have hS : St w [(w.heap.size + 1 + 1 + 1, 54, #[.slice a1 l1 c1, .slice a2 l2 c2]), (w.heap.size + 1 + 1, 24, #[.float .f64 0]), (w.heap.size + 1, 28, #[.func (.func 125) #[] #[.pointer (some ⟨w.heap.size, 0, none⟩)]]), (w.heap.size, 54, #[.slice a1 l1 c1, .slice a2 l2 c2])] [] V := by
    rw [hV]
    have h := ((((St.nil (Below.refl _ w)).new #[.slice a1 l1 c1, .slice a2 l2 c2] 54).new #[.func (.func 125) #[] #[.pointer (some ⟨w.heap.size, 0, none⟩)]] 28).new #[.float .f64 0] 24).new #[.slice a1 l1 c1, .slice a2 l2 c2] 54
    simp only [World.size_alloc] at h
    exact h
  have hsz : V.heap.size = w.heap.size + 4 := by rw [hV]; simp
  have HP : Hid (∀ W, Below w.heap.size w W → IsBig W (.agg #[.slice a1 l1 c1]) 1 ∧ IsBig W (.agg #[.slice a2 l2 c2]) 10) := fun W hb => ⟨hp.later hb, hq.later hb⟩
  have HSQ := hide (around1_stops w.heap.size (w.heap.size + 1 + 1 + 1) a1 l1 c1 a2 l2 c2 V (hS.at 0 rfl) (hp.later hS.below) (hq.later hS.below) (htab.later hS.below))
  have HS := hide hS
  rw [← hV]
  clear hp hq htab hS hV
  refine wpIn_rangeFunc_ownF rfl (by decide) (gf := 173) (lb := #[.pointer (some ⟨w.heap.size + 1 + 1 + 1, 0, none⟩)]) rfl trivial (enters_of Tryz.func173 (by kernel_rfl) rfl) (unhide HSQ) belowK_t (belowK_b (by omega)) (Below.refl _ _) (fun _ => rfl)
    (fun pre W => (OwnU W w.heap.size 54 #[.slice a1 l1 c1, .slice a2 l2 c2] ∧ OwnU W (w.heap.size + 1) 28 #[.func (.func 125) #[] #[.pointer (some ⟨w.heap.size, 0, none⟩)]] ∧ OwnU W (w.heap.size + 1 + 1) 24 #[.float .f64 (bestOf pre)]) ∧ Below w.heap.size w W)
    (fun _ _ _ => False)
    (OwnFrom.and (Own.from (fun s A B row hs hg hr => ⟨hs.1.kept hg hr, hs.2.1.kept hg hr, hs.2.2.kept hg hr⟩) _) (ownFrom_below (Nat.le_refl _) (by omega)))
    (fun _ _ _ _ _ hs _ _ => hs)
    ⟨⟨(unhide HS).at 3 rfl, (unhide HS).at 2 rfl, (unhide HS).at 1 rfl⟩, (unhide HS).below⟩
    (fun x => { tmps := #[.agg #[.slice a1 l1 c1, .slice a2 l2 c2], .pointer (some ⟨w.heap.size, 0, none⟩), .float .f64 0, .pointer (some ⟨w.heap.size + 1, 0, none⟩), .pointer (some ⟨w.heap.size + 1 + 1, 0, none⟩), .float .f64 x.1, .func (.func 125) #[] #[.pointer (some ⟨w.heap.size, 0, none⟩)], .agg #[.slice a1 l1 c1, .slice a2 l2 c2], .func (.func 173) #[] #[.pointer (some ⟨w.heap.size + 1 + 1 + 1, 0, none⟩)], .float .f64 x.1, undef, undef, undef, undef, undef, undef], defers := [] }) ?assign ?body ?done ?stop
  case assign =>
    intro l x W K hK
    gi_wp2
    exact hK
  case body =>
    rintro l pre x W ⟨⟨h1, h2, h3⟩, hB⟩ _
    have u0 := h2.ub.c 0 _ rfl
    have u1 := h3.ub.c 0 _ rfl
    have u2 := h3.ub.f 0 _ rfl
    have HN := hide (nearer3 a1 l1 c1 a2 l2 c2 x.1 (bestOf pre) w.heap.size W x.f3 (bestOf_f3 pre) h1 (unhide HP W hB).1 (unhide HP W hB).2)
    have HB := hide hB
    have HO := hide (And.intro h1 (And.intro h2 h3))
    have HE : Hid (∀ b, nearO (cOf x.1 (bestOf pre)) x.1 = b → bestOf (pre ++ [x]) = if b then x.1 else bestOf pre) := fun b hb => by rw [bestOf_snoc]; unfold bestStep; rw [hb]
    generalize nearO (cOf x.1 (bestOf pre)) x.1 = nb at *
    clear h1 h2 h3 hB
    cases nb
    · gi_wp2_with (refine ⟨trivial, ?_⟩; gi_at_call 125; refine (CallsIn.inRound l (callsIn_wide.2 (unhide HN))).mono ?_; rintro e W2 ⟨rfl, hb⟩; have HO2 := hide (And.intro ((unhide HO).1.later hb) (And.intro ((unhide HO).2.1.later hb) ((unhide HO).2.2.later hb))); have HB2 : Hid (Below w.heap.size w W2) := (unhide HB).trans (hb.mono (unhide HB).size); have HK2 : Hid (KeepsOthers W W2 ∧ Below w.heap.size W W2) := ⟨keeps_below hb, hb.mono (unhide HB).size⟩; clear u0 u1 u2 hb; have u1 := (unhide HO2).2.2.ub.c 0 _ rfl; have u2 := (unhide HO2).2.2.ub.f 0 _ rfl)
      have e : bestOf (pre ++ [x]) = bestOf pre := unhide HE false rfl
      refine ⟨(unhide HK2).1, (unhide HK2).2, ⟨(unhide HO2).1, (unhide HO2).2.1, ?_⟩, unhide HB2⟩
      rw [e]
      exact (unhide HO2).2.2
    · gi_wp2_with (refine ⟨trivial, ?_⟩; gi_at_call 125; refine (CallsIn.inRound l (callsIn_wide.2 (unhide HN))).mono ?_; rintro e W2 ⟨rfl, hb⟩; have HO2 := hide (And.intro ((unhide HO).1.later hb) (And.intro ((unhide HO).2.1.later hb) ((unhide HO).2.2.later hb))); have HB2 : Hid (Below w.heap.size w W2) := (unhide HB).trans (hb.mono (unhide HB).size); have HK2 : Hid (KeepsOthers W W2 ∧ Below w.heap.size W W2) := ⟨keeps_below hb, hb.mono (unhide HB).size⟩; clear u0 u1 u2 hb; have u1 := (unhide HO2).2.2.ub.c 0 _ rfl; have u2 := (unhide HO2).2.2.ub.f 0 _ rfl)
      have e : bestOf (pre ++ [x]) = x.1 := unhide HE true rfl
      refine ⟨(unhide HK2).1.trans (KeepsOthers.setCell _ _ _), (unhide HK2).2.setCell (p := ⟨w.heap.size + 1 + 1, 0, none⟩) (by show w.heap.size ≤ w.heap.size + 1 + 1; omega) _, ⟨?_, ?_, ?_⟩, (unhide HB2).setCell (p := ⟨w.heap.size + 1 + 1, 0, none⟩) (by show w.heap.size ≤ w.heap.size + 1 + 1; omega) _⟩
      all_goals rw [(unhide HO2).2.2.set1]
      · exact (unhide HO2).1.other (by omega) _
      · exact (unhide HO2).2.1.other (by omega) _
      · rw [e]; exact (unhide HO2).2.2.setRow _
  case done =>
    rintro D ys W hD rfl ⟨⟨_, _, h3⟩, hB⟩ hK
    have u1 := h3.ub.c 0 _ rfl
    rw [best_all] at u1
    gi_wp2
    refine ⟨by simp, .inl ⟨_, _, rfl, run_takeDeferred hK, ?_⟩⟩
    exact ⟨_, results_tmp rfl _ _ _, rfl, hB.trans (belowK_b (w := w) (Nat.le_refl _) W D _ _ (by omega) hK rfl rfl)⟩
  case stop =>
    rintro D c pre W _ _ h _
    exact h.elim
end Go.Proofs.YtijifpbpjinmhaaGreatDoor

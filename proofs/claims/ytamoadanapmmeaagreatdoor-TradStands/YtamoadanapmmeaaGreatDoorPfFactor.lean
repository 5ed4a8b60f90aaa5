/- A prefix's factor. -/
import Derived.Test.YtamoadanapmmeaaGreatDoorLimb3
import Derived.Test.YtamoadanapmmeaaGreatDoorLehmer
import Derived.Test.YtamoadanapmmeaaGreatDoorPower
import Derived.Test.YtamoadanapmmeaaGreatDoorLit
import Derived.Test.YtamoadanapmmeaaGreatDoorReads2
import Derived.Deep.RegionHeld3
import Derived.Test.YtamoadanapmmeaaGreatDoorTell
import Derived.Deep.Cut
import Derived.Test.YtamoadanapmmeaaGreatDoorDimOps
namespace Go.Proofs.YtamoadanapmmeaaGreatDoor
open Go.RowKit Go.Sort
theorem below_grow (w:World) (k:Nat) (os:Array Obj):Below w.heap.size w (grow (w.drewN k) os):=by
  refine ⟨rfl,rfl,rfl,?_,fun i hi=>?_⟩
  · simp[grow,World.drewN]
  · simp only[grow]
    rw[Array.getElem?_append_left (by simpa [World.drewN] using hi)];rfl
set_option maxHeartbeats 6400000 in
set_option maxRecDepth 100000 in
theorem intFormatUint_any (u:Nat) (hu64:u<18446744073709551616) (w:World) (htab:Tab w) :
    Calls Tryz.prog 270 #[.int .u64 u,I 10] w fun e w'=>e=.returned (.string ⟨(Lib.decDigits u).toArray⟩)∧Below w.heap.size w w':=by
  by_cases hs:u<100
  · clear htab
    go_enter Tryz.func270,Tryz.ntmps270
    go_wp2_with (go_at_call 272;refine (Tryz.internal_strconv_small u hs _).mono ?_;rintro e w' ⟨rfl,rfl⟩)
    go_ret
    exact ⟨rfl,Below.refl _ _⟩
  · have hu1:1≤u:=by omega
    have hnd20:Lib.nDigits u≤20:=by have:=Lib.numDigits_eq u hu1 hu64;split at this<;>omega
    have hal:Tryz.prog.arrayLen 298=24:=by kernel_rfl
    have hsl:∀ W,(Instr.sliceAt 298 (.pointer (some ⟨w.heap.size,0,none⟩)) none (some (I (Lib.nDigits u:Int))) none).run Tryz.prog W=.ok (.slice (some ⟨w.heap.size,0,none⟩) (Lib.nDigits u) 24) W:=fun W=>by
      rw[run_sliceAt_array_h W 298 ⟨w.heap.size,0,none⟩ (by kernel_rfl) .i64 (Lib.nDigits u:Int) (by omega) (by rw[hal];omega)]
      go_simp
    have hH0:=Lib.holds_zero0 w 298 (Lib.nDigits u) (by omega)
    have hfmt:=Tryz.internal_strconv_formatBase10 w.heap.size 0 24 u (Array.replicate (Lib.nDigits u) 0) (w.alloc (.cells Lib.zeros24 298)) hH0 (by rw[Array.size_replicate];exact Lib.lt_pow_nDigits u) hu64 (by rw[Array.size_replicate];omega)
    rw[Array.size_replicate] at hfmt
    have HH0:=Lib.hid hH0
    have HT:=hide htab
    have iu:(100:Int)≤(u:Int):=by omega
    clear hH0 hal htab
    go_enter Tryz.func270,Tryz.ntmps270
    go_wp2_with (first
      | (go_at_call 273;refine (Tryz.internal_strconv_numDigits u hu1 hu64 _ (Lib.tabIs_alloc (un HT) _)).mono ?_;rintro e w' ⟨rfl,rfl⟩))
    go_at_call 274
    refine hfmt.mono ?_
    rintro e w' ⟨rfl,k,v',dk,rfl,hF⟩
    have hcv:(convert 208 9 (.slice (some ⟨w.heap.size,0,none⟩) (Lib.nDigits u) 24)).run Tryz.prog ((putRow (fun (b:UInt8)=>Value.int .u8 (b.toNat:Int)) (w.alloc (.cells Lib.zeros24 298)) w.heap.size 0 dk).drewN k)=.ok (.string ⟨(Lib.decDigits u).toArray⟩) ((putRow (fun (b:UInt8)=>Value.int .u8 (b.toNat:Int)) (w.alloc (.cells Lib.zeros24 298)) w.heap.size 0 dk).drewN k):=by
      have h:=run_convert_bytes_back (P:=Tryz.prog) ((putRow (fun (b:UInt8)=>Value.int .u8 (b.toNat:Int)) (w.alloc (.cells Lib.zeros24 298)) w.heap.size 0 dk).drewN k) 208 9 5 ⟨w.heap.size,0,none⟩ 24 (Lib.decDigits u) Tryz.underlying208 Tryz.underlying5 Tryz.underlying9 (fun j hj=>by
        rw[Lib.row_is_numeral hF j hj,Lib.add_plain,World.cell?_drewN]
        exact cell?_putRow (fun (b:UInt8)=>Value.int .u8 (b.toNat:Int)) _ w.heap.size 0 _ dk HH0.out (by rw[hF.size,Array.size_replicate]) j (by rw[hF.size];rw[Lib.decDigits_length] at hj;exact hj))
      rw[Lib.decDigits_length] at h
      exact h
    go_wp2
    go_ret
    refine ⟨rfl,?_⟩
    obtain ⟨os',_,e⟩:=putRow_grow_new (fun (b:UInt8)=>Value.int .u8 (b.toNat:Int)) w #[.cells Lib.zeros24 298] w.heap.size 0 dk (Nat.le_refl _)
    have e2:(putRow (fun (b:UInt8)=>Value.int .u8 (b.toNat:Int)) (w.alloc (.cells Lib.zeros24 298)) w.heap.size 0 dk).drewN k=grow (w.drewN k) os':=by
      rw[alloc_eq_grow,e];rfl
    rw[e2]
    exact below_grow w k os'
theorem formatUint_any (u:Nat) (hu64:u<18446744073709551616) (w:World) (htab:Tab w) :
    Calls Tryz.prog 236 #[.int .u64 u,I 10] w fun e w'=>e=.returned (.string ⟨(Lib.decDigits u).toArray⟩)∧Below w.heap.size w w':=by
  have HT:=hide htab
  clear htab
  go_enter Tryz.func236,Tryz.ntmps236
  go_wp2_with (go_at_call 270;refine (intFormatUint_any u hu64 _ (un HT)).mono ?_;rintro e w' ⟨rfl,hb⟩)
  go_ret
  exact ⟨rfl,hb⟩
theorem natOf_any (u:Nat) (hu64:u<18446744073709551616) (w:World) (htab:Tab w) :
    Calls Tryz.prog 177 #[.int .u64 u] w fun e w'=>e=.returned (.string ⟨(Lib.decDigits u).toArray⟩)∧Below w.heap.size w w':=by
  have HT:=hide htab
  clear htab
  go_enter Tryz.func177,Tryz.ntmps177
  go_wp2_with (go_at_call 236;refine (formatUint_any u hu64 _ (un HT)).mono ?_;rintro e w' ⟨rfl,hb⟩)
  go_ret
  exact ⟨rfl,hb⟩
end Go.Proofs.YtamoadanapmmeaaGreatDoor

namespace Go.Proofs.YtamoadanapmmeaaGreatDoor
open Go.RowKit
theorem pow_grow (e:Nat) (he:20≤e):18446744073709551616≤10 ^ e:=Nat.le_trans (by decide:18446744073709551616≤10 ^ 20) (Nat.pow_le_pow_right (by decide) he)
theorem u64_600 (N:Nat) (h:N<18446744073709551616):N<10 ^ 600:=Nat.lt_of_lt_of_le h (pow_grow 600 (by decide))
set_option maxRecDepth 100000 in
set_option maxHeartbeats 2000000 in
theorem ratOf_pos (N:Nat) (w:World) (h2:N<9223372036854775808) (htab:Tab w) :
    Calls Tryz.prog 103 #[I (N:Int)] w fun r w'=>r=.returned (.agg #[.string (sT false N),.string ⟨#[49]⟩])∧Below w.heap.size w w':=by
  obtain ⟨V,hV⟩:∃ V,V=w.alloc (.cells #[.string ⟨#[]⟩,.string ⟨#[]⟩] 28):=⟨_,rfl⟩
  have hbV:Below w.heap.size w V:=by rw[hV];exact (Below.refl _ _).alloc (Nat.le_refl _) _
  have HR:Hid (T2 V w.heap.size (.string ⟨#[]⟩) (.string ⟨#[]⟩)∧Below w.heap.size w V):=⟨by rw[hV];exact ⟨by simp[go_sem],by simp[go_sem],by simp[go_sem],by simp[go_sem]⟩,hbV⟩
  have HV:=hide hV
  have hN:N<10 ^ 600:=u64_600 N (by omega)
  have HOF:Hid (Calls Tryz.prog 177 #[.int .u64 (N:Int)] V fun e w'=>e=.returned (.string (tb N))∧Below V.heap.size V w'):=by
    have:=natOf_any N (by omega) V (htab.later hbV)
    rwa [show (⟨(Lib.decDigits N).toArray⟩:ByteArray)=tb N from bytes_ext (by rw[tb_list N hN])] at this
  have HSG:Hid (∀ W,Calls Tryz.prog 120 #[.bool false,.string (tb N)] W fun e w'=>e=.returned (.string (sT false N))∧w'=W):=fun W=>signed_any false (tb N) W (by have:=(tb_digs N hN).2;omega)
  have k0:¬ (N:Int)<0:=by omega
  skip
  skip
  clear hN htab hbV
  generalize sT false N=sn at *
  generalize tb N=tn at *
  go_enter Tryz.func103,Tryz.ntmps103
  go_upto_region 4 with fail
  skip
  rw[← un HV]
  clear hV HV
  go_wp2_with (first
    | (go_at_call 177;go_must (refine (un HOF).mono ?_;rintro e W9 ⟨rfl,hb1⟩;have HR1:Hid (T2 W9 w.heap.size (.string ⟨#[]⟩) (.string ⟨#[]⟩)∧Below w.heap.size w W9):=⟨(un HR).1.later hb1,(un HR).2.trans (hb1.mono (un HR).2.size)⟩;clear hb1))
    | (go_at_call 120;go_must (refine (un HSG _).mono ?_;rintro e wB ⟨rfl,hwB⟩;obtain rfl:W9=wB:=hwB.symm;have r0:=(un HR1).1.c0;have r1:=(un HR1).1.c1;have rf0:=(un HR1).1.f0;have rf1:=(un HR1).1.f1)))
  have hS:=(un HR1).1.store (.string sn) (.string ⟨#[49]⟩)
  have hb:Below w.heap.size w (store2 W9 w.heap.size (.string sn) (.string ⟨#[49]⟩)):=below_store2 (un HR1).2 (Nat.le_refl _) _ _
  have u0:=hS.c0;have u1:=hS.c1
  exact bodyPost_ret (v:=.agg #[.string sn,.string ⟨#[49]⟩]) (w:=store2 W9 w.heap.size (.string sn) (.string ⟨#[49]⟩)) (by simp[results,Tryz.results103,go_sem,u0,u1]) rfl ⟨rfl,hb⟩
end Go.Proofs.YtamoadanapmmeaaGreatDoor

namespace Go.Proofs.YtamoadanapmmeaaGreatDoor
open Go.RowKit
theorem T2.past {W V : World} {x y : Value} (h : Below (W.alloc (.cells #[x, y] 28)).heap.size (W.alloc (.cells #[x, y] 28)) V) : T2 V W.heap.size x y :=
  (show T2 (W.alloc (.cells #[x, y] 28)) W.heap.size x y from ⟨by simp [go_sem], by simp [go_sem], by simp [go_sem], by simp [go_sem]⟩).later h
theorem T2.pastD {W V : World} {x y : Value} (h : Below (W.alloc (.cells #[x, y] 28)).drew.heap.size (W.alloc (.cells #[x, y] 28)).drew V) : T2 V W.heap.size x y :=
  ((show T2 (W.alloc (.cells #[x, y] 28)) W.heap.size x y from ⟨by simp [go_sem], by simp [go_sem], by simp [go_sem], by simp [go_sem]⟩).later ((Below.refl _ _).drew)).later h
theorem T2.otherP {W : World} {g : Nat} {x y : Value} (h : T2 W g x y) (k : Nat) (hp : k ≠ g) (u v : Value) : T2 (store2 W k u v) g x y := by
  unfold store2
  have e : ∀ (W : World) (o : Nat) (u : Value), T2 W g x y → T2 (W.setCell ⟨k, o, none⟩ u) g x y := fun W o u h =>
    ⟨by rw [World.cell?_setCell_other _ _ _ _ (by intro e; cases e; exact hp rfl)]; exact h.c0, by rw [World.cell?_setCell_other _ _ _ _ (by intro e; cases e; exact hp rfl)]; exact h.c1, by rw [World.frozen?_setCell]; exact h.f0, by rw [World.frozen?_setCell]; exact h.f1⟩
  exact e _ _ _ (e _ _ _ h)
set_option maxRecDepth 100000 in
set_option maxHeartbeats 4000000 in
theorem factor_walk (a0 a1 a2 a3 a4 a5 a6 a7 n d : Int) (an ad bn bd fn fd : ByteArray) (w : World)
    (hoa : ∀ W, Below w.heap.size w W → Calls Tryz.prog 103 #[I n] W fun r w' => r = .returned (.agg #[.string an, .string ad]) ∧ Below W.heap.size W w')
    (hob : ∀ W, Below w.heap.size w W → Calls Tryz.prog 103 #[I d] W fun r w' => r = .returned (.agg #[.string bn, .string bd]) ∧ Below W.heap.size W w')
    (hqu : ∀ W, Below w.heap.size w W → Calls Tryz.prog 31 #[.agg #[.string an, .string ad], .agg #[.string bn, .string bd]] W fun r w' => r = .returned (.tuple #[.agg #[.string fn, .string fd], I 0]) ∧ Below W.heap.size W w') :
    Calls Tryz.prog 226 #[.agg #[I a0, I a1, I a2, I a3, I a4, I a5, I a6, I a7, I n, I d]] w fun r w' => r = .returned (.agg #[.string fn, .string fd]) ∧ Below w.heap.size w w' := by
  obtain ⟨V, hV⟩ : ∃ V, V = (w.alloc (.cells #[I a0, I a1, I a2, I a3, I a4, I a5, I a6, I a7, I n, I d] 235)).alloc (.cells #[.string ⟨#[]⟩, .string ⟨#[]⟩] 28) := ⟨_, rfl⟩
  have HP : Hid (UB V w.heap.size #[I a0, I a1, I a2, I a3, I a4, I a5, I a6, I a7, I n, I d]) := by rw [hV]; exact ((OwnU.new w #[I a0, I a1, I a2, I a3, I a4, I a5, I a6, I a7, I n, I d] 235).alloc _).ub
  have HR : Hid (T2 V (w.heap.size + 1) (.string ⟨#[]⟩) (.string ⟨#[]⟩)) := by rw [hV]; exact ⟨by simp [go_sem], by simp [go_sem], by simp [go_sem], by simp [go_sem]⟩
  have HB : Hid (Below w.heap.size w V) := by rw [hV]; exact ((Below.refl _ _).alloc (Nat.le_refl _) _).alloc (by simp) _
  have HV := hide hV
  have HOA := hide hoa; have HOB := hide hob; have HQU := hide hqu
  clear hoa hob hqu
  go_enter Tryz.func226, Tryz.ntmps226
  go_upto_region 1 with fail
  rw [← un HV]
  clear hV HV
  have t0 : V.cell? ⟨w.heap.size, 8, none⟩ = some (I n) := (un HP).c 8 _ rfl
  have t1 : V.cell? ⟨w.heap.size, 9, none⟩ = some (I d) := (un HP).c 9 _ rfl
  have HC0 : Hid (Below V.heap.size V V.drew) := (Below.refl _ _).drew
  have HUP : Hid (∀ W, Below V.heap.size V W → Below w.heap.size w W) := fun W h => (un HB).trans (h.mono (un HB).size)
  have HUA : Hid (∀ W O, Below V.heap.size V W → Below w.heap.size w (W.alloc O)) := fun W O h => (un HB).trans ((h.alloc h.size O).mono (un HB).size)
  have HUD : Hid (∀ O, Below w.heap.size w (V.alloc O).drew) := fun O => ((un HB).alloc (un HB).size O).drew
  have hv0 := (un HP).lt
  go_region_held3 (fun w' => w'.cell? ⟨w.heap.size, 8, none⟩ = some (I n) ∧ w'.cell? ⟨w.heap.size, 9, none⟩ = some (I d)) (first | assumption | (simp [go_sem, *]; done)) ((first
    | (go_at_call_of 103 n; go_must (refine (un HOA _ (by first | exact un HUP _ (un HC0) | exact un HUA _ _ (un HC0) | exact un HUD _)).mono ?_; rintro e wa ⟨rfl, hb⟩; have HCwa : Hid (Below V.heap.size V wa) := (by first | exact (un HC0).trans (hb.mono (un HC0).size) | exact bel_al (un HC0) hb | exact bel_alD hb); (first | (have HZwa := hide ((un HZ0).later hb); clear u0 u1 uf0 uf1; have u0 := (un HZwa).c0; have u1 := (un HZwa).c1; have uf0 := (un HZwa).f0; have uf1 := (un HZwa).f1) | (have HZwa : Hid (T2 wa V.heap.size (.string ⟨#[]⟩) (.string ⟨#[]⟩)) := (by first | exact T2.past hb | exact T2.pastD hb); have u0 := (un HZwa).c0; have u1 := (un HZwa).c1; have uf0 := (un HZwa).f0; have uf1 := (un HZwa).f1) | skip); clear hb t0 t1; have t0 : wa.cell? ⟨w.heap.size, 8, none⟩ = some (I n) := ((un HP).later (un HCwa)).c 8 _ rfl; have t1 : wa.cell? ⟨w.heap.size, 9, none⟩ = some (I d) := ((un HP).later (un HCwa)).c 9 _ rfl; have hvwa := ((un HP).later (un HCwa)).lt))
    | (go_at_call_of 103 d; go_must (refine (un HOB _ (by first | exact un HUP _ (un HCwa) | exact un HUA _ _ (un HCwa) | exact un HUD _)).mono ?_; rintro e wb ⟨rfl, hb⟩; have HCwb : Hid (Below V.heap.size V wb) := (by first | exact (un HCwa).trans (hb.mono (un HCwa).size) | exact bel_al (un HCwa) hb | exact bel_alD hb); (first | (have HZwb := hide ((un HZwa).later hb); clear u0 u1 uf0 uf1; have u0 := (un HZwb).c0; have u1 := (un HZwb).c1; have uf0 := (un HZwb).f0; have uf1 := (un HZwb).f1) | (have HZwb : Hid (T2 wb wa.heap.size (.string ⟨#[]⟩) (.string ⟨#[]⟩)) := (by first | exact T2.past hb | exact T2.pastD hb); have u0 := (un HZwb).c0; have u1 := (un HZwb).c1; have uf0 := (un HZwb).f0; have uf1 := (un HZwb).f1) | skip); clear hb t0 t1; have t0 : wb.cell? ⟨w.heap.size, 8, none⟩ = some (I n) := ((un HP).later (un HCwb)).c 8 _ rfl; have t1 : wb.cell? ⟨w.heap.size, 9, none⟩ = some (I d) := ((un HP).later (un HCwb)).c 9 _ rfl; have hvwb := ((un HP).later (un HCwb)).lt))
    | (go_at_call 31; go_must (refine (un HQU _ (by first | exact un HUP _ (un HCwb) | exact un HUA _ _ (un HCwb) | exact un HUD _)).mono ?_; rintro e wc ⟨rfl, hb⟩; have HCwc : Hid (Below V.heap.size V wc) := (by first | exact (un HCwb).trans (hb.mono (un HCwb).size) | exact bel_al (un HCwb) hb | exact bel_alD hb); (first | (have HZwc := hide ((un HZwb).later hb); clear u0 u1 uf0 uf1; have u0 := (un HZwc).c0; have u1 := (un HZwc).c1; have uf0 := (un HZwc).f0; have uf1 := (un HZwc).f1) | (have HZwc : Hid (T2 wc wb.heap.size (.string ⟨#[]⟩) (.string ⟨#[]⟩)) := (by first | exact T2.past hb | exact T2.pastD hb); have u0 := (un HZwc).c0; have u1 := (un HZwc).c1; have uf0 := (un HZwc).f0; have uf1 := (un HZwc).f1) | skip); clear hb t0 t1; have t0 : wc.cell? ⟨w.heap.size, 8, none⟩ = some (I n) := ((un HP).later (un HCwc)).c 8 _ rfl; have t1 : wc.cell? ⟨w.heap.size, 9, none⟩ = some (I d) := ((un HP).later (un HCwc)).c 9 _ rfl; have hvwc := ((un HP).later (un HCwc)).lt))))
  all_goals
    first
    | (obtain ⟨X, hX⟩ : ∃ X, X = wc.heap.size := ⟨_, rfl⟩
       obtain ⟨U, hU⟩ : ∃ U, U = wc.alloc (.cells #[.string fn, .string fd] 28) := ⟨_, rfl⟩
       have HF : Hid (T2 U X (.string fn) (.string fd) ∧ T2 U (w.heap.size + 1) (.string ⟨#[]⟩) (.string ⟨#[]⟩) ∧ Below w.heap.size w U) := by
         rw [hU, hX]
         exact ⟨⟨by simp [go_sem], by simp [go_sem], by simp [go_sem], by simp [go_sem]⟩, ((un HR).later (un HCwc)).later ((Below.refl _ _).alloc (Nat.le_refl _) _), un HUA _ _ (un HCwc)⟩
       rw [← hU, ← hX]
       clear hU hX)
    | (obtain ⟨X, hX⟩ : ∃ X, X = wb.heap.size := ⟨_, rfl⟩
       obtain ⟨U, hU⟩ : ∃ U, U = (wc.setCell { block := wb.heap.size, off := 0 } (.string fn)).setCell { block := wb.heap.size, off := 1 } (.string fd) := ⟨_, rfl⟩
       have HF : Hid (T2 U X (.string fn) (.string fd) ∧ T2 U (w.heap.size + 1) (.string ⟨#[]⟩) (.string ⟨#[]⟩) ∧ Below w.heap.size w U) := by
         rw [hU, hX]
         have h1 := ((un HR).later (un HCwb)).lt
         exact ⟨(un HZwc).store _ _, ((un HR).later (un HCwc)).otherP wb.heap.size (by omega) _ _, below_store2 (un HUP _ (un HCwc)) (by omega) _ _⟩
       rw [← hU, ← hX]
       clear hU hX)
    | (obtain ⟨X, hX⟩ : ∃ X, X = wa.heap.size := ⟨_, rfl⟩
       obtain ⟨U, hU⟩ : ∃ U, U = (wc.setCell { block := wa.heap.size, off := 0 } (.string fn)).setCell { block := wa.heap.size, off := 1 } (.string fd) := ⟨_, rfl⟩
       have HF : Hid (T2 U X (.string fn) (.string fd) ∧ T2 U (w.heap.size + 1) (.string ⟨#[]⟩) (.string ⟨#[]⟩) ∧ Below w.heap.size w U) := by
         rw [hU, hX]
         have h1 := ((un HR).later (un HCwa)).lt
         exact ⟨(un HZwc).store _ _, ((un HR).later (un HCwc)).otherP wa.heap.size (by omega) _ _, below_store2 (un HUP _ (un HCwc)) (by omega) _ _⟩
       rw [← hU, ← hX]
       clear hU hX)
    | (obtain ⟨X, hX⟩ : ∃ X, X = V.heap.size := ⟨_, rfl⟩
       obtain ⟨U, hU⟩ : ∃ U, U = (wc.setCell { block := V.heap.size, off := 0 } (.string fn)).setCell { block := V.heap.size, off := 1 } (.string fd) := ⟨_, rfl⟩
       have HF : Hid (T2 U X (.string fn) (.string fd) ∧ T2 U (w.heap.size + 1) (.string ⟨#[]⟩) (.string ⟨#[]⟩) ∧ Below w.heap.size w U) := by
         rw [hU, hX]
         have h1 := (un HR).lt
         exact ⟨(un HZwc).store _ _, ((un HR).later (un HCwc)).otherP V.heap.size (by omega) _ _, below_store2 (un HUP _ (un HCwc)) (by omega) _ _⟩
       rw [← hU, ← hX]
       clear hU hX)
  all_goals
    have x0 := (un HF).1.c0; have x1 := (un HF).1.c1
    have r0 := (un HF).2.1.c0; have r1 := (un HF).2.1.c1; have rf0 := (un HF).2.1.f0; have rf1 := (un HF).2.1.f1
    go_wp2_with fail
    have hS := (un HF).2.1.store (.string fn) (.string fd)
    have hb := below_store2 (un HF).2.2 (by omega) (.string fn) (.string fd) (g := w.heap.size + 1)
    have v0 := hS.c0; have v1 := hS.c1
    exact bodyPost_ret (v := .agg #[.string fn, .string fd]) (w := store2 U (w.heap.size + 1) (.string fn) (.string fd)) (by simp [results, Tryz.results226, go_sem, v0, v1]) rfl ⟨rfl, hb⟩
end Go.Proofs.YtamoadanapmmeaaGreatDoor

namespace Go.Proofs.YtamoadanapmmeaaGreatDoor.Pf
open Go.RowKit
def Made (f:Nat) (a b:Int):Prop:=∀ W,Calls Tryz.prog f #[] W fun r w'=>r=.returned (.agg #[I a,I b])∧Below W.heap.size W w'
set_option maxRecDepth 100000 in
set_option maxHeartbeats 1000000 in
theorem ptimes_any (a b c d:Int) (w:World) (h1:-1000≤b) (h2:b≤1000) (h3:-1000≤d) (h4:d≤1000) :
    Calls Tryz.prog 368 #[.agg #[I a,I b],.agg #[I c,I d]] w fun r w'=>r=.returned (.agg #[I a,I (b+d)])∧Below w.heap.size w w':=by
  go_enter Tryz.func368,Tryz.ntmps368
  go_wp2
  exact bodyPost_ret (v:=.agg #[I a,I (b+d)]) (by simp[results,Tryz.results368,go_sem]) rfl ⟨rfl,(((Below.refl _ _).alloc (Nat.le_refl _) _).alloc (by simp) _).alloc (by simp;omega) _⟩
set_option maxRecDepth 100000 in
set_option maxHeartbeats 1000000 in
theorem deca_made:Made 326 10 1:=by
  intro w
  go_enter Tryz.func326,Tryz.ntmps326
  go_wp2
  exact bodyPost_ret (v:=.agg #[I 10,I 1]) (by simp[results,Tryz.results326,go_sem]) rfl ⟨rfl,(Below.refl _ _).alloc (Nat.le_refl _) _⟩
set_option maxRecDepth 100000 in
set_option maxHeartbeats 1000000 in
theorem hecto_made:Made 327 10 2:=by
  intro w
  have H1:=hide deca_made
  have H2:=hide deca_made
  unfold Made at H1 H2
  have HT:Hid (∀ W,Calls Tryz.prog 368 #[.agg #[I 10,I 1],.agg #[I 10,I 1]] W fun r w'=>r=.returned (.agg #[I 10,I 2])∧Below W.heap.size W w'):=fun W=>ptimes_any 10 1 10 1 W (by decide) (by decide) (by decide) (by decide)
  obtain ⟨V,hV⟩:∃ V,V=w.alloc (.cells #[I 0,I 0] 357):=⟨_,rfl⟩
  have HS:Hid (T2 V w.heap.size (I 0) (I 0)∧Below w.heap.size w V):=by rw[hV];exact ⟨⟨by simp[go_sem],by simp[go_sem],by simp[go_sem],by simp[go_sem]⟩,(Below.refl _ _).alloc (Nat.le_refl _) _⟩
  have HV:=hide hV
  go_enter Tryz.func327,Tryz.ntmps327
  go_upto_region 1 with fail
  rw[← un HV]
  clear hV HV
  go_wp2_with (first
    | (go_at_call 326;go_must (refine (un H1 _).mono ?_;rintro e wn ⟨rfl,hb⟩;replace HS:=hide (And.intro ((un HS).1.later hb) ((un HS).2.trans (hb.mono (un HS).2.size)));clear hb))
    | (go_at_call 368;go_must (refine (un HT _).mono ?_;rintro e wl ⟨rfl,hb⟩;have HL:Hid (T2 wl w.heap.size (I 0) (I 0)∧Below w.heap.size w wl):=⟨(un HS).1.later hb,(un HS).2.trans (hb.mono (un HS).2.size)⟩;clear hb;have r0:=(un HL).1.c0;have r1:=(un HL).1.c1;have rf0:=(un HL).1.f0;have rf1:=(un HL).1.f1)))
  have hS:=(un HL).1.store (I 10) (I 2)
  have hb:=below_store2 (un HL).2 (Nat.le_refl _) (I 10) (I 2)
  have v0:=hS.c0;have v1:=hS.c1
  exact bodyPost_ret (v:=.agg #[I 10,I 2]) (w:=store2 wl w.heap.size (I 10) (I 2)) (by simp[results,Tryz.results327,go_sem,v0,v1]) rfl ⟨rfl,hb⟩
set_option maxRecDepth 100000 in
set_option maxHeartbeats 1000000 in
theorem kilo_made:Made 328 10 3:=by
  intro w
  have H1:=hide hecto_made
  have H2:=hide deca_made
  unfold Made at H1 H2
  have HT:Hid (∀ W,Calls Tryz.prog 368 #[.agg #[I 10,I 2],.agg #[I 10,I 1]] W fun r w'=>r=.returned (.agg #[I 10,I 3])∧Below W.heap.size W w'):=fun W=>ptimes_any 10 2 10 1 W (by decide) (by decide) (by decide) (by decide)
  obtain ⟨V,hV⟩:∃ V,V=w.alloc (.cells #[I 0,I 0] 357):=⟨_,rfl⟩
  have HS:Hid (T2 V w.heap.size (I 0) (I 0)∧Below w.heap.size w V):=by rw[hV];exact ⟨⟨by simp[go_sem],by simp[go_sem],by simp[go_sem],by simp[go_sem]⟩,(Below.refl _ _).alloc (Nat.le_refl _) _⟩
  have HV:=hide hV
  go_enter Tryz.func328,Tryz.ntmps328
  go_upto_region 1 with fail
  rw[← un HV]
  clear hV HV
  go_wp2_with (first
    | (go_at_call 327;go_must (refine (un H1 _).mono ?_;rintro e wn ⟨rfl,hb⟩;replace HS:=hide (And.intro ((un HS).1.later hb) ((un HS).2.trans (hb.mono (un HS).2.size)));clear hb))
    | (go_at_call 326;go_must (refine (un H2 _).mono ?_;rintro e wn ⟨rfl,hb⟩;replace HS:=hide (And.intro ((un HS).1.later hb) ((un HS).2.trans (hb.mono (un HS).2.size)));clear hb))
    | (go_at_call 368;go_must (refine (un HT _).mono ?_;rintro e wl ⟨rfl,hb⟩;have HL:Hid (T2 wl w.heap.size (I 0) (I 0)∧Below w.heap.size w wl):=⟨(un HS).1.later hb,(un HS).2.trans (hb.mono (un HS).2.size)⟩;clear hb;have r0:=(un HL).1.c0;have r1:=(un HL).1.c1;have rf0:=(un HL).1.f0;have rf1:=(un HL).1.f1)))
  have hS:=(un HL).1.store (I 10) (I 3)
  have hb:=below_store2 (un HL).2 (Nat.le_refl _) (I 10) (I 3)
  have v0:=hS.c0;have v1:=hS.c1
  exact bodyPost_ret (v:=.agg #[I 10,I 3]) (w:=store2 wl w.heap.size (I 10) (I 3)) (by simp[results,Tryz.results328,go_sem,v0,v1]) rfl ⟨rfl,hb⟩
end Go.Proofs.YtamoadanapmmeaaGreatDoor.Pf

namespace Go.Proofs.YtamoadanapmmeaaGreatDoor.Pf
open Go.RowKit
theorem small_of_err {x : Rat} (h : errT x = 0) : Small x := by
  unfold errT at h
  by_cases hs : Small x
  · exact hs
  · rw [if_neg hs] at h; cases h
theorem one_lt (E : Nat) (h : E = 600) : (1 : Nat) < 10 ^ E := Nat.one_lt_pow (by omega) (by decide)
theorem texts_low {n d : Nat} {x : Rat} (h : Cub.Low false n d) (e : x = Cub.valQ false n d) (hn : n < 10 ^ 600) (hd : d < 10 ^ 600) : numT x = tb n ∧ denT x = tb d ∧ errT x = 0 := by
  subst e
  obtain ⟨e1, e2, e3⟩ := Cub.low_is h
  have hs : Small (Cub.valQ false n d) := ⟨by rw [← e2]; exact hn, by rw [← e3]; exact hd⟩
  unfold numT denT errT
  rw [if_pos hs, if_pos hs, if_pos hs, ← e1, ← e2, ← e3]
  exact ⟨rfl, rfl, rfl⟩
theorem fac_pos (N k : Nat) (j : Int) (hj : j = (k : Int)) (h : N ^ k < 10 ^ 600) : numT (Cub.pw (Cub.valQ false N 1) j) = tb (N ^ k) ∧ denT (Cub.pw (Cub.valQ false N 1) j) = tb 1 ∧ errT (Cub.pw (Cub.valQ false N 1) j) = 0 := by
  have hl : Cub.Low false N 1 := ⟨by decide, Nat.gcd_one_right _, fun h => by cases h⟩
  obtain ⟨h1, h2⟩ := Cub.pow_low hl k
  simp only [Bool.false_and, Nat.one_pow] at h1 h2
  refine texts_low h1 ?_ h (one_lt 600 rfl)
  unfold Cub.pw
  rw [hj, if_neg (by omega), Int.toNat_natCast, h2]
theorem bel_al {U W V : World} {O : Obj} (h : Below U.heap.size U W) (hb : Below (W.alloc O).heap.size (W.alloc O) V) : Below U.heap.size U V :=
  (h.alloc h.size O).trans (hb.mono (h.alloc h.size O).size)
theorem bel_alD {W V : World} {O : Obj} (hb : Below (W.alloc O).drew.heap.size (W.alloc O).drew V) : Below W.heap.size W V :=
  have h0 := (Below.refl W.heap.size W).alloc (Nat.le_refl _) O
  have h : Below W.heap.size W (W.alloc O).drew := h0.trans ((Below.refl _ _).drew.mono h0.size)
  h.trans (hb.mono h.size)
set_option maxRecDepth 100000 in
set_option maxHeartbeats 4000000 in
theorem factor_walk (N : Nat) (j : Int) (on od fn fd : ByteArray) (w : World)
    (hof : ∀ W, Below w.heap.size w W → Calls Tryz.prog 103 #[I (N : Int)] W fun r w' => r = .returned (.agg #[.string on, .string od]) ∧ Below W.heap.size W w')
    (hpw : ∀ W, Below w.heap.size w W → Calls Tryz.prog 176 #[.agg #[.string on, .string od], I j] W fun r w' => r = .returned (.tuple #[.agg #[.string fn, .string fd], I 0]) ∧ Below W.heap.size W w') :
    Calls Tryz.prog 358 #[.agg #[I (N : Int), I j]] w fun r w' => r = .returned (.agg #[.string fn, .string fd]) ∧ Below w.heap.size w w' := by
  obtain ⟨V, hV⟩ : ∃ V, V = (w.alloc (.cells #[I (N : Int), I j] 357)).alloc (.cells #[.string ⟨#[]⟩, .string ⟨#[]⟩] 28) := ⟨_, rfl⟩
  have HP : Hid (T2 V w.heap.size (I (N : Int)) (I j)) := by rw [hV]; exact ⟨by simp [go_sem], by simp [go_sem], by simp [go_sem], by simp [go_sem]⟩
  have HR : Hid (T2 V (w.heap.size + 1) (.string ⟨#[]⟩) (.string ⟨#[]⟩)) := by rw [hV]; exact ⟨by simp [go_sem], by simp [go_sem], by simp [go_sem], by simp [go_sem]⟩
  have HB : Hid (Below w.heap.size w V) := by rw [hV]; exact ((Below.refl _ _).alloc (Nat.le_refl _) _).alloc (by simp) _
  have HV := hide hV
  have HOF := hide hof; have HPW := hide hpw
  clear hof hpw
  go_enter Tryz.func358, Tryz.ntmps358
  go_upto_region 1 with fail
  rw [← un HV]
  clear hV HV
  have t0 := (un HP).c0; have t1 := (un HP).c1
  have HC0 : Hid (Below V.heap.size V V.drew) := (Below.refl _ _).drew
  have HUP : Hid (∀ W, Below V.heap.size V W → Below w.heap.size w W) := fun W h => (un HB).trans (h.mono (un HB).size)
  have HUA : Hid (∀ W O, Below V.heap.size V W → Below w.heap.size w (W.alloc O)) := fun W O h => (un HB).trans ((h.alloc h.size O).mono (un HB).size)
  have HUD : Hid (∀ O, Below w.heap.size w (V.alloc O).drew) := fun O => ((un HB).alloc (un HB).size O).drew
  have hv0 := (un HP).lt
  go_region_held3 (fun w' => w'.cell? ⟨w.heap.size, 0, none⟩ = some (I (N : Int)) ∧ w'.cell? ⟨w.heap.size, 1, none⟩ = some (I j)) (first | assumption | (simp [go_sem, *]; done)) ((first
    | (go_at_call 103; go_must (refine (un HOF _ (by first | exact un HUP _ (un HC0) | exact un HUA _ _ (un HC0) | exact un HUD _)).mono ?_; rintro e wa ⟨rfl, hb⟩; have HCwa : Hid (Below V.heap.size V wa) := (by first | exact (un HC0).trans (hb.mono (un HC0).size) | exact bel_al (un HC0) hb | exact bel_alD hb); (first | (have HZa := hide ((un HZ0).later hb); clear u0 u1 uf0 uf1; have u0 := (un HZa).c0; have u1 := (un HZa).c1; have uf0 := (un HZa).f0; have uf1 := (un HZa).f1) | (have HZa : Hid (T2 wa V.heap.size (.string ⟨#[]⟩) (.string ⟨#[]⟩)) := (by first | exact T2.past hb | exact T2.pastD hb); have u0 := (un HZa).c0; have u1 := (un HZa).c1; have uf0 := (un HZa).f0; have uf1 := (un HZa).f1) | skip); clear hb t0 t1; have t0 := ((un HP).later (un HCwa)).c0; have t1 := ((un HP).later (un HCwa)).c1; have hvwa := ((un HP).later (un HCwa)).lt))
    | (go_at_call 176; go_must (refine (un HPW _ (by first | exact un HUP _ (un HCwa) | exact un HUA _ _ (un HCwa) | exact un HUD _)).mono ?_; rintro e wb ⟨rfl, hb⟩; have HCwb : Hid (Below V.heap.size V wb) := (by first | exact (un HCwa).trans (hb.mono (un HCwa).size) | exact bel_al (un HCwa) hb | exact bel_alD hb); (first | (have HZb := hide ((un HZa).later hb); clear u0 u1 uf0 uf1; have u0 := (un HZb).c0; have u1 := (un HZb).c1; have uf0 := (un HZb).f0; have uf1 := (un HZb).f1) | (have HZb : Hid (T2 wb wa.heap.size (.string ⟨#[]⟩) (.string ⟨#[]⟩)) := (by first | exact T2.past hb | exact T2.pastD hb); have u0 := (un HZb).c0; have u1 := (un HZb).c1; have uf0 := (un HZb).f0; have uf1 := (un HZb).f1) | skip); clear hb t0 t1; have t0 := ((un HP).later (un HCwb)).c0; have t1 := ((un HP).later (un HCwb)).c1; have hvwb := ((un HP).later (un HCwb)).lt))))
  all_goals
    first
    | (obtain ⟨X, hX⟩ : ∃ X, X = wb.heap.size := ⟨_, rfl⟩
       obtain ⟨U, hU⟩ : ∃ U, U = wb.alloc (.cells #[.string fn, .string fd] 28) := ⟨_, rfl⟩
       have HF : Hid (T2 U X (.string fn) (.string fd) ∧ T2 U (w.heap.size + 1) (.string ⟨#[]⟩) (.string ⟨#[]⟩) ∧ Below w.heap.size w U) := by
         rw [hU, hX]
         exact ⟨⟨by simp [go_sem], by simp [go_sem], by simp [go_sem], by simp [go_sem]⟩, ((un HR).later (un HCwb)).later ((Below.refl _ _).alloc (Nat.le_refl _) _), un HUA _ _ (un HCwb)⟩
       rw [← hU, ← hX]
       clear hU hX)
    | (obtain ⟨X, hX⟩ : ∃ X, X = wa.heap.size := ⟨_, rfl⟩
       obtain ⟨U, hU⟩ : ∃ U, U = (wb.setCell { block := wa.heap.size, off := 0 } (.string fn)).setCell { block := wa.heap.size, off := 1 } (.string fd) := ⟨_, rfl⟩
       have HF : Hid (T2 U X (.string fn) (.string fd) ∧ T2 U (w.heap.size + 1) (.string ⟨#[]⟩) (.string ⟨#[]⟩) ∧ Below w.heap.size w U) := by
         rw [hU, hX]
         have h1 := ((un HR).later (un HCwa)).lt
         exact ⟨(un HZb).store _ _, ((un HR).later (un HCwb)).otherP wa.heap.size (by omega) _ _, below_store2 (un HUP _ (un HCwb)) (by omega) _ _⟩
       rw [← hU, ← hX]
       clear hU hX)
    | (obtain ⟨X, hX⟩ : ∃ X, X = V.heap.size := ⟨_, rfl⟩
       obtain ⟨U, hU⟩ : ∃ U, U = (wb.setCell { block := V.heap.size, off := 0 } (.string fn)).setCell { block := V.heap.size, off := 1 } (.string fd) := ⟨_, rfl⟩
       have HF : Hid (T2 U X (.string fn) (.string fd) ∧ T2 U (w.heap.size + 1) (.string ⟨#[]⟩) (.string ⟨#[]⟩) ∧ Below w.heap.size w U) := by
         rw [hU, hX]
         have h1 := (un HR).lt
         exact ⟨(un HZb).store _ _, ((un HR).later (un HCwb)).otherP V.heap.size (by omega) _ _, below_store2 (un HUP _ (un HCwb)) (by omega) _ _⟩
       rw [← hU, ← hX]
       clear hU hX)
  all_goals
    have x0 := (un HF).1.c0; have x1 := (un HF).1.c1
    have r0 := (un HF).2.1.c0; have r1 := (un HF).2.1.c1; have rf0 := (un HF).2.1.f0; have rf1 := (un HF).2.1.f1
    go_wp2_with fail
    have hS := (un HF).2.1.store (.string fn) (.string fd)
    have hb := below_store2 (un HF).2.2 (by omega) (.string fn) (.string fd) (g := w.heap.size + 1)
    have v0 := hS.c0; have v1 := hS.c1
    exact bodyPost_ret (v := .agg #[.string fn, .string fd]) (w := store2 U (w.heap.size + 1) (.string fn) (.string fd)) (by simp [results, Tryz.results358, go_sem, v0, v1]) rfl ⟨rfl, hb⟩
theorem factor_any (N : Nat) (j : Int) (fn fd : ByteArray) (w : World) (htab : Tab w) (hN : 0 < N) (hN2 : N < 100000) (hj1 : -4096 ≤ j) (hj2 : j ≤ 4096) (h : numT (Cub.pw (Cub.valQ false N 1) j) = fn ∧ denT (Cub.pw (Cub.valQ false N 1) j) = fd ∧ errT (Cub.pw (Cub.valQ false N 1) j) = 0) :
    Calls Tryz.prog 358 #[.agg #[I (N : Int), I j]] w fun r w' => r = .returned (.agg #[.string fn, .string fd]) ∧ Below w.heap.size w w' := by
  have hs : N < 10 ^ 600 := u64_600 N (by omega)
  have hl : Cub.Low false N 1 := ⟨by decide, Nat.gcd_one_right _, fun h => by cases h⟩
  obtain ⟨e1, e2, e3⟩ := Cub.low_is hl
  have hsm : Small (Cub.valQ false N 1) := ⟨by rw [← e2]; exact hs, by rw [← e3]; exact one_lt 600 rfl⟩
  have hR : IsR (sT false N) ⟨#[49]⟩ (Cub.valQ false N 1) := by
    refine ⟨hsm, ?_, ?_⟩
    · unfold numT; rw [if_pos hsm, ← e1, ← e2]
    · unfold denT; rw [if_pos hsm, ← e3]; exact (lit_tb ⟨#[49]⟩ 1 (by decide) (by decide)).1
  have hx0 : Cub.valQ false N 1 ≠ 0 := fun e => by
    rw [e] at e2
    have : N = 0 := e2
    omega
  refine factor_walk N j (sT false N) ⟨#[49]⟩ fn fd w (fun W hb => ratOf_pos N W (by omega) (htab.later hb)) (fun W hb => ?_)
  have hp := rpow_ok (sT false N) ⟨#[49]⟩ (Cub.valQ false N 1) j W hR hj1 hj2 hx0 (small_of_err h.2.2) (htab.later hb)
  unfold Ans at hp
  rw [h.1, h.2.1, h.2.2] at hp
  exact hp
end Go.Proofs.YtamoadanapmmeaaGreatDoor.Pf

/- The base units as they are made: their amounts. -/
import Derived.Test.YtliadckofhblnaaGreatDoorLimb3
import Derived.Test.YtliadckofhblnaaGreatDoorOne
import Derived.Test.YtliadckofhblnaaGreatDoorReads
import Derived.Test.YtliadckofhblnaaGreatDoorOwn
namespace Go.Proofs.YtliadckofhblnaaGreatDoor
open Go.RowKit Go.Sort
theorem below_grow (w:World) (k:Nat) (os:Array Obj):Below w.heap.size w (grow (w.drewN k) os):=by
  refine⟨rfl,rfl,rfl,?_,fun i hi=>?_⟩
  · simp[grow,World.drewN]
  · simp only[grow]
    rw[Array.getElem?_append_left (by simpa [World.drewN] using hi)];rfl
set_option maxHeartbeats 6400000 in
set_option maxRecDepth 100000 in
theorem intFormatUint_any (u:Nat) (hu64:u<18446744073709551616) (w:World) (htab:Tab w) :
    Calls Tryz.prog 270 #[.int .u64 u,I 10] w fun e w'=>e=.returned (.string ⟨(Lib.decDigits u).toArray⟩)∧Below w.heap.size w w':=by
  by_cases hs:u<100
  · clear htab
    go_enter Tryz.func270,Tryz.ntmps270
    go_wp2_with (go_at_call 272;refine(Tryz.internal_strconv_small u hs _).mono ?_;rintro e w' ⟨rfl,rfl⟩)
    go_ret
    exact⟨rfl,Below.refl _ _⟩
  · have hu1:1≤u:=by omega
    have hnd20:Lib.nDigits u≤20:=by have:=Lib.numDigits_eq u hu1 hu64;split at this<;>omega
    have hal:Tryz.prog.arrayLen 298=24:=by kernel_rfl
    have hsl:∀W,(Instr.sliceAt 298 (.pointer (some ⟨w.heap.size,0,none⟩)) none (some (I (Lib.nDigits u:Int))) none).run Tryz.prog W=.ok (.slice (some ⟨w.heap.size,0,none⟩) (Lib.nDigits u) 24) W:=fun W=>by
      rw[run_sliceAt_array_h W 298 ⟨w.heap.size,0,none⟩ (by kernel_rfl) .i64 (Lib.nDigits u:Int) (by omega) (by rw[hal];omega)]
      go_simp
    have hH0:=Lib.holds_zero0 w 298 (Lib.nDigits u) (by omega)
    have hfmt:=Tryz.internal_strconv_formatBase10 w.heap.size 0 24 u (Array.replicate (Lib.nDigits u) 0) (w.alloc (.cells Lib.zeros24 298)) hH0 (by rw[Array.size_replicate];exact Lib.lt_pow_nDigits u) hu64 (by rw[Array.size_replicate];omega)
    rw[Array.size_replicate]at hfmt
    have HH0:=Lib.hid hH0
    have HT:=hide htab
    have iu:(100:Int)≤(u:Int):=by omega
    clear hH0 hal htab
    go_enter Tryz.func270,Tryz.ntmps270
    go_wp2_with (first
      | (go_at_call 273;refine(Tryz.internal_strconv_numDigits u hu1 hu64 _ (Lib.tabIs_alloc (un HT) _)).mono ?_;rintro e w' ⟨rfl,rfl⟩))
    go_at_call 274
    refine hfmt.mono ?_
    rintro e w' ⟨rfl,k,v',dk,rfl,hF⟩
    have hcv:(convert 208 9 (.slice (some ⟨w.heap.size,0,none⟩) (Lib.nDigits u) 24)).run Tryz.prog ((putRow (fun (b:UInt8)=>Value.int .u8 (b.toNat:Int)) (w.alloc (.cells Lib.zeros24 298)) w.heap.size 0 dk).drewN k)=.ok (.string ⟨(Lib.decDigits u).toArray⟩) ((putRow (fun (b:UInt8)=>Value.int .u8 (b.toNat:Int)) (w.alloc (.cells Lib.zeros24 298)) w.heap.size 0 dk).drewN k):=by
      have h:=run_convert_bytes_back (P:=Tryz.prog) ((putRow (fun (b:UInt8)=>Value.int .u8 (b.toNat:Int)) (w.alloc (.cells Lib.zeros24 298)) w.heap.size 0 dk).drewN k) 208 9 5 ⟨w.heap.size,0,none⟩ 24 (Lib.decDigits u) Tryz.underlying208 Tryz.underlying5 Tryz.underlying9 (fun j hj=>by
        rw[Lib.row_is_numeral hF j hj,Lib.add_plain,World.cell?_drewN]
        exact cell?_putRow (fun (b:UInt8)=>Value.int .u8 (b.toNat:Int)) _ w.heap.size 0 _ dk HH0.out (by rw[hF.size,Array.size_replicate]) j (by rw[hF.size];rw[Lib.decDigits_length]at hj;exact hj))
      rw[Lib.decDigits_length]at h
      exact h
    go_wp2
    go_ret
    refine⟨rfl,?_⟩
    obtain⟨os',_,e⟩:=putRow_grow_new (fun (b:UInt8)=>Value.int .u8 (b.toNat:Int)) w #[.cells Lib.zeros24 298] w.heap.size 0 dk (Nat.le_refl _)
    have e2:(putRow (fun (b:UInt8)=>Value.int .u8 (b.toNat:Int)) (w.alloc (.cells Lib.zeros24 298)) w.heap.size 0 dk).drewN k=grow (w.drewN k) os':=by
      rw[alloc_eq_grow,e];rfl
    rw[e2]
    exact below_grow w k os'
theorem formatUint_any (u:Nat) (hu64:u<18446744073709551616) (w:World) (htab:Tab w) :
    Calls Tryz.prog 236 #[.int .u64 u,I 10] w fun e w'=>e=.returned (.string ⟨(Lib.decDigits u).toArray⟩)∧Below w.heap.size w w':=by
  have HT:=hide htab
  clear htab
  go_enter Tryz.func236,Tryz.ntmps236
  go_wp2_with (go_at_call 270;refine(intFormatUint_any u hu64 _ (un HT)).mono ?_;rintro e w' ⟨rfl,hb⟩)
  go_ret
  exact⟨rfl,hb⟩
theorem natOf_any (u:Nat) (hu64:u<18446744073709551616) (w:World) (htab:Tab w) :
    Calls Tryz.prog 177 #[.int .u64 u] w fun e w'=>e=.returned (.string ⟨(Lib.decDigits u).toArray⟩)∧Below w.heap.size w w':=by
  have HT:=hide htab
  clear htab
  go_enter Tryz.func177,Tryz.ntmps177
  go_wp2_with (go_at_call 236;refine(formatUint_any u hu64 _ (un HT)).mono ?_;rintro e w' ⟨rfl,hb⟩)
  go_ret
  exact⟨rfl,hb⟩
end Go.Proofs.YtliadckofhblnaaGreatDoor

namespace Go.Proofs.YtliadckofhblnaaGreatDoor
open Go.RowKit
theorem pow_grow (e:Nat) (he:20≤e):18446744073709551616≤10 ^ e:=Nat.le_trans (by decide:18446744073709551616≤10 ^ 20) (Nat.pow_le_pow_right (by decide) he)
theorem u64_600 (N:Nat) (h:N<18446744073709551616):N<10 ^ 600:=Nat.lt_of_lt_of_le h (pow_grow 600 (by decide))
set_option maxRecDepth 100000 in
set_option maxHeartbeats 2000000 in
theorem ratOf_pos (N:Nat) (w:World) (h2:N<9223372036854775808) (htab:Tab w) :
  Calls Tryz.prog 103 #[I (N:Int)] w fun r w'=>r=.returned (.agg #[.string (sT false N),.string ⟨#[49]⟩])∧Below w.heap.size w w':=by
 obtain⟨V,hV⟩:∃V,V=w.alloc (.cells #[.string ⟨#[]⟩,.string ⟨#[]⟩] 28):=⟨_,rfl⟩
 have hbV:Below w.heap.size w V:=by rw[hV];exact(Below.refl _ _).alloc (Nat.le_refl _) _
 have HR:Hid (T2 V w.heap.size (.string ⟨#[]⟩) (.string ⟨#[]⟩)∧Below w.heap.size w V):=⟨by rw[hV];exact⟨by simp[go_sem],by simp[go_sem],by simp[go_sem],by simp[go_sem]⟩,hbV⟩
 have HV:=hide hV
 have hN:N<10 ^ 600:=u64_600 N (by omega)
 have HOF:Hid (Calls Tryz.prog 177 #[.int .u64 (N:Int)] V fun e w'=>e=.returned (.string (tb N))∧Below V.heap.size V w'):=by
  have:=natOf_any N (by omega) V (htab.later hbV)
  rwa [show(⟨(Lib.decDigits N).toArray⟩:ByteArray)=tb N from bytes_ext (by rw[tb_list N hN])]at this
 have HSG:Hid (∀W,Calls Tryz.prog 120 #[.bool false,.string (tb N)] W fun e w'=>e=.returned (.string (sT false N))∧w'=W):=fun W=>signed_any false (tb N) W (by have:=(tb_digs N hN).2;omega)
 have k0:¬(N:Int)<0:=by omega
 skip
 skip
 clear hN htab hbV
 generalize sT false N=sn at *
 generalize tb N=tn at *
 go_enter Tryz.func103,Tryz.ntmps103
 go_upto_region 4 with fail
 skip
 rw[←un HV]
 clear hV HV
 go_wp2_with (first
  | (go_at_call 177;go_must(refine(un HOF).mono ?_;rintro e W9 ⟨rfl,hb1⟩;have HR1:Hid (T2 W9 w.heap.size (.string ⟨#[]⟩) (.string ⟨#[]⟩)∧Below w.heap.size w W9):=⟨(un HR).1.later hb1,(un HR).2.trans (hb1.mono (un HR).2.size)⟩;clear hb1))
  | (go_at_call 120;go_must(refine(un HSG _).mono ?_;rintro e wB ⟨rfl,hwB⟩;obtain rfl:W9=wB:=hwB.symm;have r0:=(un HR1).1.c0;have r1:=(un HR1).1.c1;have rf0:=(un HR1).1.f0;have rf1:=(un HR1).1.f1)))
 have hS:=(un HR1).1.store (.string sn) (.string ⟨#[49]⟩)
 have hb:Below w.heap.size w (store2 W9 w.heap.size (.string sn) (.string ⟨#[49]⟩)):=below_store2 (un HR1).2 (Nat.le_refl _) _ _
 have u0:=hS.c0;have u1:=hS.c1
 exact bodyPost_ret (v:=.agg #[.string sn,.string ⟨#[49]⟩]) (w:=store2 W9 w.heap.size (.string sn) (.string ⟨#[49]⟩)) (by simp[results,Tryz.results103,go_sem,u0,u1]) rfl ⟨rfl,hb⟩
end Go.Proofs.YtliadckofhblnaaGreatDoor

namespace Go.Proofs.YtliadckofhblnaaGreatDoor
open Go.RowKit
theorem info43:(Tryz.prog.info? 235).map (·.size)=some 10:=by kernel_rfl
theorem res43 {fn:Func} {p:Tmp} (h:fn.results=#[.cell p 235]) (tmps:Array Value) (w:World) (g:Nat) (vs:Array Value) (hl:vs.size=10) (hp:tmps.getD p undef=.pointer (some ⟨g,0,none⟩)) (ho:OwnU w g 235 vs) :
  (results fn tmps).run Tryz.prog w=.ok (.agg vs) w:=by
 rw[results_cell1 h,hp]
 simp only[asAddr,Sem.run_pure,Result.andThen_ok]
 rw[run_loadVar_row w g 235 235 vs (0,0) _ ho Tryz.underlying235 rfl (by rw[info43,hl])]
set_option maxRecDepth 100000 in
set_option maxHeartbeats 2000000 in
theorem fixed_any (a0 a1 a2 a3 a4 a5 a6 a7:Int) (w:World):Calls Tryz.prog 260 #[.agg #[I a0,I a1,I a2,I a3,I a4,I a5,I a6,I a7]] w fun r w'=>r=.returned (.agg #[I a0,I a1,I a2,I a3,I a4,I a5,I a6,I a7,I 1,I 1])∧Below w.heap.size w w':=by
 go_enter Tryz.func260,Tryz.ntmps260
 have HR:Hid (OwnU ((w.alloc (.cells #[I a0,I a1,I a2,I a3,I a4,I a5,I a6,I a7] 26)).alloc (.cells #[I 0,I 0,I 0,I 0,I 0,I 0,I 0,I 0,I 0,I 0] 235)) (w.heap.size+1) 235 #[I 0,I 0,I 0,I 0,I 0,I 0,I 0,I 0,I 0,I 0]):=by have h:=OwnU.new (w.alloc (.cells #[I a0,I a1,I a2,I a3,I a4,I a5,I a6,I a7] 26)) #[I 0,I 0,I 0,I 0,I 0,I 0,I 0,I 0,I 0,I 0] 235;rw[Dm.size_alloc]at h;exact h
 go_wp2_with (refine storeT 235 10 info43 rfl (.tmp 2) (.tmp 4) rfl (w.heap.size+1) #[I 0,I 0,I 0,I 0,I 0,I 0,I 0,I 0,I 0,I 0] #[I a0,I a1,I a2,I a3,I a4,I a5,I a6,I a7,I 1,I 1] rfl rfl rfl rfl (un HR) (by kernel_rfl) ?_)
 refine bodyPost_ret (v:=.agg #[I a0,I a1,I a2,I a3,I a4,I a5,I a6,I a7,I 1,I 1]) (res43 Tryz.results260 _ _ (w.heap.size+1) _ rfl rfl ((un HR).setRow _)) rfl ⟨rfl,below_setRow (((Below.refl _ _).alloc (Nat.le_refl _) _).alloc (by simp) _) (by omega) _⟩
set_option maxRecDepth 100000 in
set_option maxHeartbeats 2000000 in
theorem number_any (n:Int) (w:World):Calls Tryz.prog 261 #[I n] w fun r w'=>r=.returned (.agg #[I 0,I 0,I 0,I 0,I 0,I 0,I 0,I 0,I n,I 1])∧Below w.heap.size w w':=by
 go_enter Tryz.func261,Tryz.ntmps261
 have HR:Hid (OwnU (w.alloc (.cells #[I 0,I 0,I 0,I 0,I 0,I 0,I 0,I 0,I 0,I 0] 235)) w.heap.size 235 #[I 0,I 0,I 0,I 0,I 0,I 0,I 0,I 0,I 0,I 0]):=OwnU.new _ _ _
 go_wp2_with (refine storeT 235 10 info43 rfl (.tmp 2) (.tmp 4) rfl w.heap.size #[I 0,I 0,I 0,I 0,I 0,I 0,I 0,I 0,I 0,I 0] #[I 0,I 0,I 0,I 0,I 0,I 0,I 0,I 0,I n,I 1] rfl rfl rfl rfl (un HR) (by kernel_rfl) ?_)
 refine bodyPost_ret (v:=.agg #[I 0,I 0,I 0,I 0,I 0,I 0,I 0,I 0,I n,I 1]) (res43 Tryz.results261 _ _ w.heap.size _ rfl rfl ((un HR).setRow _)) rfl ⟨rfl,below_setRow ((Below.refl _ _).alloc (Nat.le_refl _) _) (Nat.le_refl _) _⟩
set_option maxRecDepth 100000 in
set_option maxHeartbeats 4000000 in
theorem amTimes_any (a0 a1 a2 a3 a4 a5 a6 a7 an ad b0 b1 b2 b3 b4 b5 b6 b7 bn bd c0 c1 c2 c3 c4 c5 c6 c7 e:Int) (w:World)
  (hm:∀W:World,Calls Tryz.prog 175 #[.slice (some ⟨W.heap.size,0,none⟩) 2 2] (W.alloc (.cells #[I a0,I a1,I a2,I a3,I a4,I a5,I a6,I a7,I b0,I b1,I b2,I b3,I b4,I b5,I b6,I b7] 26)) fun r w'=>r=.returned (.tuple #[.agg #[I c0,I c1,I c2,I c3,I c4,I c5,I c6,I c7],I e])∧Below (W.alloc (.cells #[I a0,I a1,I a2,I a3,I a4,I a5,I a6,I a7,I b0,I b1,I b2,I b3,I b4,I b5,I b6,I b7] 26)).heap.size (W.alloc (.cells #[I a0,I a1,I a2,I a3,I a4,I a5,I a6,I a7,I b0,I b1,I b2,I b3,I b4,I b5,I b6,I b7] 26)) w') :
  Calls Tryz.prog 263 #[.agg #[I a0,I a1,I a2,I a3,I a4,I a5,I a6,I a7,I an,I ad],.agg #[I b0,I b1,I b2,I b3,I b4,I b5,I b6,I b7,I bn,I bd]] w fun r w'=>r=.returned (.agg #[I c0,I c1,I c2,I c3,I c4,I c5,I c6,I c7,I (wrap64 (an*bn)),I (wrap64 (ad*bd))])∧Below w.heap.size w w':=by
 obtain⟨V,hV⟩:∃V,V=(((w.alloc (.cells #[I a0,I a1,I a2,I a3,I a4,I a5,I a6,I a7,I an,I ad] 235)).alloc (.cells #[I b0,I b1,I b2,I b3,I b4,I b5,I b6,I b7,I bn,I bd] 235)).alloc (.cells #[I 0,I 0,I 0,I 0,I 0,I 0,I 0,I 0,I 0,I 0] 235)):=⟨_,rfl⟩
 have HA:Hid (OwnU V w.heap.size 235 #[I a0,I a1,I a2,I a3,I a4,I a5,I a6,I a7,I an,I ad]):=by rw[hV];exact((OwnU.new w #[I a0,I a1,I a2,I a3,I a4,I a5,I a6,I a7,I an,I ad] 235).alloc _).alloc _
 have HB:Hid (OwnU V (w.heap.size+1) 235 #[I b0,I b1,I b2,I b3,I b4,I b5,I b6,I b7,I bn,I bd]):=by rw[hV];have h:=(OwnU.new (w.alloc (.cells #[I a0,I a1,I a2,I a3,I a4,I a5,I a6,I a7,I an,I ad] 235)) #[I b0,I b1,I b2,I b3,I b4,I b5,I b6,I b7,I bn,I bd] 235).alloc (.cells #[I 0,I 0,I 0,I 0,I 0,I 0,I 0,I 0,I 0,I 0] 235);rw[Dm.size_alloc]at h;exact h
 have HR:Hid (OwnU V (w.heap.size+2) 235 #[I 0,I 0,I 0,I 0,I 0,I 0,I 0,I 0,I 0,I 0]):=by rw[hV];have h:=OwnU.new ((w.alloc (.cells #[I a0,I a1,I a2,I a3,I a4,I a5,I a6,I a7,I an,I ad] 235)).alloc (.cells #[I b0,I b1,I b2,I b3,I b4,I b5,I b6,I b7,I bn,I bd] 235)) #[I 0,I 0,I 0,I 0,I 0,I 0,I 0,I 0,I 0,I 0] 235;rw[Dm.size_alloc,Dm.size_alloc]at h;exact h
 have HW:Hid (Below w.heap.size w V):=by rw[hV];exact(((Below.refl _ _).alloc (Nat.le_refl _) _).alloc (by simp) _).alloc (by simp;omega) _
 have HV:=hide hV
 have HM:=hide hm
 clear hV hm
 go_enter Tryz.func263,Tryz.ntmps263
 go_upto_region 1 with fail
 rw[←un HV]
 clear HV
 have x0:V.cell? ⟨w.heap.size,0,none⟩=some (I a0):=(un HA).ub.c 0 _ rfl;have x1:V.cell? ⟨w.heap.size,1,none⟩=some (I a1):=(un HA).ub.c 1 _ rfl;have x2:V.cell? ⟨w.heap.size,2,none⟩=some (I a2):=(un HA).ub.c 2 _ rfl;have x3:V.cell? ⟨w.heap.size,3,none⟩=some (I a3):=(un HA).ub.c 3 _ rfl;have x4:V.cell? ⟨w.heap.size,4,none⟩=some (I a4):=(un HA).ub.c 4 _ rfl;have x5:V.cell? ⟨w.heap.size,5,none⟩=some (I a5):=(un HA).ub.c 5 _ rfl;have x6:V.cell? ⟨w.heap.size,6,none⟩=some (I a6):=(un HA).ub.c 6 _ rfl;have x7:V.cell? ⟨w.heap.size,7,none⟩=some (I a7):=(un HA).ub.c 7 _ rfl
 have y0:V.cell? ⟨w.heap.size+1,0,none⟩=some (I b0):=(un HB).ub.c 0 _ rfl;have y1:V.cell? ⟨w.heap.size+1,1,none⟩=some (I b1):=(un HB).ub.c 1 _ rfl;have y2:V.cell? ⟨w.heap.size+1,2,none⟩=some (I b2):=(un HB).ub.c 2 _ rfl;have y3:V.cell? ⟨w.heap.size+1,3,none⟩=some (I b3):=(un HB).ub.c 3 _ rfl;have y4:V.cell? ⟨w.heap.size+1,4,none⟩=some (I b4):=(un HB).ub.c 4 _ rfl;have y5:V.cell? ⟨w.heap.size+1,5,none⟩=some (I b5):=(un HB).ub.c 5 _ rfl;have y6:V.cell? ⟨w.heap.size+1,6,none⟩=some (I b6):=(un HB).ub.c 6 _ rfl;have y7:V.cell? ⟨w.heap.size+1,7,none⟩=some (I b7):=(un HB).ub.c 7 _ rfl
 go_upto_region 2 with (go_at_call 175;go_must(refine(un HM _).mono ?_;rintro e1 w1 ⟨rfl,hb1⟩;have HB1:Hid (Below V.heap.size V w1):=((Below.refl V.heap.size V).alloc (Nat.le_refl _) _).trans (hb1.mono (by simp));clear hb1 x0 y0 x1 y1 x2 y2 x3 y3 x4 y4 x5 y5 x6 y6 x7 y7))
 have HA1:=hide ((un HA).later (un HB1));have HBB1:=hide ((un HB).later (un HB1));have HR1:=hide ((un HR).later (un HB1));have HW1:=hide ((un HW).trans ((un HB1).mono (un HW).size))
 clear HA HB HR HW HB1
 have HD:Hid (OwnU (w1.alloc (.cells #[I c0,I c1,I c2,I c3,I c4,I c5,I c6,I c7] 26)) w1.heap.size 26 #[I c0,I c1,I c2,I c3,I c4,I c5,I c6,I c7]):=OwnU.new _ _ _
 have hal:Below w1.heap.size w1 (w1.alloc (.cells #[I c0,I c1,I c2,I c3,I c4,I c5,I c6,I c7] 26)):=(Below.refl _ _).alloc (Nat.le_refl _) _
 have HA2:=hide ((un HA1).later hal);have HB2:=hide ((un HBB1).later hal);have HR2:=hide ((un HR1).later hal);have HW2:=hide ((un HW1).trans (hal.mono (un HW1).size))
 obtain⟨g5,hg5⟩:∃g5,g5=w1.heap.size:=⟨_,rfl⟩
 rw[←hg5]at HD ⊢
 clear hal hg5 HA1 HBB1 HR1 HW1
 generalize w1.alloc (.cells #[I c0,I c1,I c2,I c3,I c4,I c5,I c6,I c7] 26)=U at *
 have z0:U.cell? ⟨g5,0,none⟩=some (I c0):=(un HD).ub.c 0 _ rfl;have z1:U.cell? ⟨g5,1,none⟩=some (I c1):=(un HD).ub.c 1 _ rfl;have z2:U.cell? ⟨g5,2,none⟩=some (I c2):=(un HD).ub.c 2 _ rfl;have z3:U.cell? ⟨g5,3,none⟩=some (I c3):=(un HD).ub.c 3 _ rfl;have z4:U.cell? ⟨g5,4,none⟩=some (I c4):=(un HD).ub.c 4 _ rfl;have z5:U.cell? ⟨g5,5,none⟩=some (I c5):=(un HD).ub.c 5 _ rfl;have z6:U.cell? ⟨g5,6,none⟩=some (I c6):=(un HD).ub.c 6 _ rfl;have z7:U.cell? ⟨g5,7,none⟩=some (I c7):=(un HD).ub.c 7 _ rfl
 have x8:U.cell? ⟨w.heap.size,8,none⟩=some (I an):=(un HA2).ub.c 8 _ rfl
 have x9:U.cell? ⟨w.heap.size,9,none⟩=some (I ad):=(un HA2).ub.c 9 _ rfl
 have y8:U.cell? ⟨w.heap.size+1,8,none⟩=some (I bn):=(un HB2).ub.c 8 _ rfl
 have y9:U.cell? ⟨w.heap.size+1,9,none⟩=some (I bd):=(un HB2).ub.c 9 _ rfl
 go_wp2_with (refine storeT 235 10 info43 rfl (.tmp 4) (.tmp 27) rfl (w.heap.size+2) #[I 0,I 0,I 0,I 0,I 0,I 0,I 0,I 0,I 0,I 0] #[I c0,I c1,I c2,I c3,I c4,I c5,I c6,I c7,I (wrap64 (an*bn)),I (wrap64 (ad*bd))] rfl rfl rfl rfl (un HR2) (by kernel_rfl) ?_)
 refine bodyPost_ret (v:=.agg #[I c0,I c1,I c2,I c3,I c4,I c5,I c6,I c7,I (wrap64 (an*bn)),I (wrap64 (ad*bd))]) (res43 Tryz.results263 _ _ (w.heap.size+2) _ rfl rfl ((un HR2).setRow _)) rfl ⟨rfl,below_setRow (un HW2) (by omega) _⟩
set_option maxRecDepth 100000 in
set_option maxHeartbeats 4000000 in
theorem amBy_any (a0 a1 a2 a3 a4 a5 a6 a7 an ad b0 b1 b2 b3 b4 b5 b6 b7 bn bd c0 c1 c2 c3 c4 c5 c6 c7 e:Int) (w:World)
  (hm:∀W,Calls Tryz.prog 105 #[.agg #[I a0,I a1,I a2,I a3,I a4,I a5,I a6,I a7],.agg #[I b0,I b1,I b2,I b3,I b4,I b5,I b6,I b7]] W fun r w'=>r=.returned (.tuple #[.agg #[I c0,I c1,I c2,I c3,I c4,I c5,I c6,I c7],I e])∧Below W.heap.size W w') :
  Calls Tryz.prog 262 #[.agg #[I a0,I a1,I a2,I a3,I a4,I a5,I a6,I a7,I an,I ad],.agg #[I b0,I b1,I b2,I b3,I b4,I b5,I b6,I b7,I bn,I bd]] w fun r w'=>r=.returned (.agg #[I c0,I c1,I c2,I c3,I c4,I c5,I c6,I c7,I (wrap64 (an*bd)),I (wrap64 (ad*bn))])∧Below w.heap.size w w':=by
 obtain⟨V,hV⟩:∃V,V=(((w.alloc (.cells #[I a0,I a1,I a2,I a3,I a4,I a5,I a6,I a7,I an,I ad] 235)).alloc (.cells #[I b0,I b1,I b2,I b3,I b4,I b5,I b6,I b7,I bn,I bd] 235)).alloc (.cells #[I 0,I 0,I 0,I 0,I 0,I 0,I 0,I 0,I 0,I 0] 235)):=⟨_,rfl⟩
 have HA:Hid (OwnU V w.heap.size 235 #[I a0,I a1,I a2,I a3,I a4,I a5,I a6,I a7,I an,I ad]):=by rw[hV];exact((OwnU.new w #[I a0,I a1,I a2,I a3,I a4,I a5,I a6,I a7,I an,I ad] 235).alloc _).alloc _
 have HB:Hid (OwnU V (w.heap.size+1) 235 #[I b0,I b1,I b2,I b3,I b4,I b5,I b6,I b7,I bn,I bd]):=by rw[hV];have h:=(OwnU.new (w.alloc (.cells #[I a0,I a1,I a2,I a3,I a4,I a5,I a6,I a7,I an,I ad] 235)) #[I b0,I b1,I b2,I b3,I b4,I b5,I b6,I b7,I bn,I bd] 235).alloc (.cells #[I 0,I 0,I 0,I 0,I 0,I 0,I 0,I 0,I 0,I 0] 235);rw[Dm.size_alloc]at h;exact h
 have HR:Hid (OwnU V (w.heap.size+2) 235 #[I 0,I 0,I 0,I 0,I 0,I 0,I 0,I 0,I 0,I 0]):=by rw[hV];have h:=OwnU.new ((w.alloc (.cells #[I a0,I a1,I a2,I a3,I a4,I a5,I a6,I a7,I an,I ad] 235)).alloc (.cells #[I b0,I b1,I b2,I b3,I b4,I b5,I b6,I b7,I bn,I bd] 235)) #[I 0,I 0,I 0,I 0,I 0,I 0,I 0,I 0,I 0,I 0] 235;rw[Dm.size_alloc,Dm.size_alloc]at h;exact h
 have HW:Hid (Below w.heap.size w V):=by rw[hV];exact(((Below.refl _ _).alloc (Nat.le_refl _) _).alloc (by simp) _).alloc (by simp;omega) _
 have HV:=hide hV
 have HM:=hide hm
 clear hV hm
 go_enter Tryz.func262,Tryz.ntmps262
 go_upto_region 1 with fail
 rw[←un HV]
 clear HV
 have x0:V.cell? ⟨w.heap.size,0,none⟩=some (I a0):=(un HA).ub.c 0 _ rfl;have x1:V.cell? ⟨w.heap.size,1,none⟩=some (I a1):=(un HA).ub.c 1 _ rfl;have x2:V.cell? ⟨w.heap.size,2,none⟩=some (I a2):=(un HA).ub.c 2 _ rfl;have x3:V.cell? ⟨w.heap.size,3,none⟩=some (I a3):=(un HA).ub.c 3 _ rfl;have x4:V.cell? ⟨w.heap.size,4,none⟩=some (I a4):=(un HA).ub.c 4 _ rfl;have x5:V.cell? ⟨w.heap.size,5,none⟩=some (I a5):=(un HA).ub.c 5 _ rfl;have x6:V.cell? ⟨w.heap.size,6,none⟩=some (I a6):=(un HA).ub.c 6 _ rfl;have x7:V.cell? ⟨w.heap.size,7,none⟩=some (I a7):=(un HA).ub.c 7 _ rfl
 have y0:V.cell? ⟨w.heap.size+1,0,none⟩=some (I b0):=(un HB).ub.c 0 _ rfl;have y1:V.cell? ⟨w.heap.size+1,1,none⟩=some (I b1):=(un HB).ub.c 1 _ rfl;have y2:V.cell? ⟨w.heap.size+1,2,none⟩=some (I b2):=(un HB).ub.c 2 _ rfl;have y3:V.cell? ⟨w.heap.size+1,3,none⟩=some (I b3):=(un HB).ub.c 3 _ rfl;have y4:V.cell? ⟨w.heap.size+1,4,none⟩=some (I b4):=(un HB).ub.c 4 _ rfl;have y5:V.cell? ⟨w.heap.size+1,5,none⟩=some (I b5):=(un HB).ub.c 5 _ rfl;have y6:V.cell? ⟨w.heap.size+1,6,none⟩=some (I b6):=(un HB).ub.c 6 _ rfl;have y7:V.cell? ⟨w.heap.size+1,7,none⟩=some (I b7):=(un HB).ub.c 7 _ rfl
 go_upto_region 2 with (go_at_call 105;go_must(refine(un HM _).mono ?_;rintro e1 w1 ⟨rfl,hb1⟩;have HB1:=hide hb1;clear hb1 x0 y0 x1 y1 x2 y2 x3 y3 x4 y4 x5 y5 x6 y6 x7 y7))
 have HA1:=hide ((un HA).later (un HB1));have HBB1:=hide ((un HB).later (un HB1));have HR1:=hide ((un HR).later (un HB1));have HW1:=hide ((un HW).trans ((un HB1).mono (un HW).size))
 clear HA HB HR HW HB1
 have HD:Hid (OwnU (w1.alloc (.cells #[I c0,I c1,I c2,I c3,I c4,I c5,I c6,I c7] 26)) w1.heap.size 26 #[I c0,I c1,I c2,I c3,I c4,I c5,I c6,I c7]):=OwnU.new _ _ _
 have hal:Below w1.heap.size w1 (w1.alloc (.cells #[I c0,I c1,I c2,I c3,I c4,I c5,I c6,I c7] 26)):=(Below.refl _ _).alloc (Nat.le_refl _) _
 have HA2:=hide ((un HA1).later hal);have HB2:=hide ((un HBB1).later hal);have HR2:=hide ((un HR1).later hal);have HW2:=hide ((un HW1).trans (hal.mono (un HW1).size))
 obtain⟨g5,hg5⟩:∃g5,g5=w1.heap.size:=⟨_,rfl⟩
 rw[←hg5]at HD ⊢
 clear hal hg5 HA1 HBB1 HR1 HW1
 generalize w1.alloc (.cells #[I c0,I c1,I c2,I c3,I c4,I c5,I c6,I c7] 26)=U at *
 have z0:U.cell? ⟨g5,0,none⟩=some (I c0):=(un HD).ub.c 0 _ rfl;have z1:U.cell? ⟨g5,1,none⟩=some (I c1):=(un HD).ub.c 1 _ rfl;have z2:U.cell? ⟨g5,2,none⟩=some (I c2):=(un HD).ub.c 2 _ rfl;have z3:U.cell? ⟨g5,3,none⟩=some (I c3):=(un HD).ub.c 3 _ rfl;have z4:U.cell? ⟨g5,4,none⟩=some (I c4):=(un HD).ub.c 4 _ rfl;have z5:U.cell? ⟨g5,5,none⟩=some (I c5):=(un HD).ub.c 5 _ rfl;have z6:U.cell? ⟨g5,6,none⟩=some (I c6):=(un HD).ub.c 6 _ rfl;have z7:U.cell? ⟨g5,7,none⟩=some (I c7):=(un HD).ub.c 7 _ rfl
 have x8:U.cell? ⟨w.heap.size,8,none⟩=some (I an):=(un HA2).ub.c 8 _ rfl
 have x9:U.cell? ⟨w.heap.size,9,none⟩=some (I ad):=(un HA2).ub.c 9 _ rfl
 have y8:U.cell? ⟨w.heap.size+1,8,none⟩=some (I bn):=(un HB2).ub.c 8 _ rfl
 have y9:U.cell? ⟨w.heap.size+1,9,none⟩=some (I bd):=(un HB2).ub.c 9 _ rfl
 go_wp2_with (refine storeT 235 10 info43 rfl (.tmp 4) (.tmp 26) rfl (w.heap.size+2) #[I 0,I 0,I 0,I 0,I 0,I 0,I 0,I 0,I 0,I 0] #[I c0,I c1,I c2,I c3,I c4,I c5,I c6,I c7,I (wrap64 (an*bd)),I (wrap64 (ad*bn))] rfl rfl rfl rfl (un HR2) (by kernel_rfl) ?_)
 refine bodyPost_ret (v:=.agg #[I c0,I c1,I c2,I c3,I c4,I c5,I c6,I c7,I (wrap64 (an*bd)),I (wrap64 (ad*bn))]) (res43 Tryz.results262 _ _ (w.heap.size+2) _ rfl rfl ((un HR2).setRow _)) rfl ⟨rfl,below_setRow (un HW2) (by omega) _⟩
end Go.Proofs.YtliadckofhblnaaGreatDoor

namespace Go.Proofs.YtliadckofhblnaaGreatDoor
open Go.RowKit
def X2 (l:List Int) (i j:Nat):Int:=l.getD (i*8+j) 0
theorem dims_new (W:World) (a0 a1 a2 a3 a4 a5 a6 a7 b0 b1 b2 b3 b4 b5 b6 b7:Int):Dm.Dims (W.alloc (.cells #[I a0,I a1,I a2,I a3,I a4,I a5,I a6,I a7,I b0,I b1,I b2,I b3,I b4,I b5,I b6,I b7] 26)) W.heap.size 0 2 (X2 [a0,a1,a2,a3,a4,a5,a6,a7,b0,b1,b2,b3,b4,b5,b6,b7]):=by
 refine⟨by simp,fun i hi j hj=>?_⟩
 have h:=(OwnU.new W #[I a0,I a1,I a2,I a3,I a4,I a5,I a6,I a7,I b0,I b1,I b2,I b3,I b4,I b5,I b6,I b7] 26).ub.c (0+i*8+j)
 refine h _ ?_
 rcases(by omega:i=0∨i=1)with rfl|rfl<;>rcases(by omega:j=0∨j=1∨j=2∨j=3∨j=4∨j=5∨j=6∨j=7)with rfl|rfl|rfl|rfl|rfl|rfl|rfl|rfl<;>rfl
def mulL (l:List Int):List Int:=[Dm.sel (Dm.allB (X2 l) 2 && Dm.rightB (Dm.sumL (X2 l) 2)) (Dm.sumD (X2 l) 2 0),Dm.sel (Dm.allB (X2 l) 2 && Dm.rightB (Dm.sumL (X2 l) 2)) (Dm.sumD (X2 l) 2 1),Dm.sel (Dm.allB (X2 l) 2 && Dm.rightB (Dm.sumL (X2 l) 2)) (Dm.sumD (X2 l) 2 2),Dm.sel (Dm.allB (X2 l) 2 && Dm.rightB (Dm.sumL (X2 l) 2)) (Dm.sumD (X2 l) 2 3),Dm.sel (Dm.allB (X2 l) 2 && Dm.rightB (Dm.sumL (X2 l) 2)) (Dm.sumD (X2 l) 2 4),Dm.sel (Dm.allB (X2 l) 2 && Dm.rightB (Dm.sumL (X2 l) 2)) (Dm.sumD (X2 l) 2 5),Dm.sel (Dm.allB (X2 l) 2 && Dm.rightB (Dm.sumL (X2 l) 2)) (Dm.sumD (X2 l) 2 6),Dm.sel (Dm.allB (X2 l) 2 && Dm.rightB (Dm.sumL (X2 l) 2)) (Dm.sumD (X2 l) 2 7)]
def quoL (a b q:List Int):List Int:=q.map (Dm.sel (Dm.quoOk (Dm.rightB a) (Dm.rightB b) q))
theorem times_of (a0 a1 a2 a3 a4 a5 a6 a7 an ad b0 b1 b2 b3 b4 b5 b6 b7 bn bd c0 c1 c2 c3 c4 c5 c6 c7 p q:Int) (w:World) (h:mulL [a0,a1,a2,a3,a4,a5,a6,a7,b0,b1,b2,b3,b4,b5,b6,b7]=[c0,c1,c2,c3,c4,c5,c6,c7]) (hp:wrap64 (an*bn)=p) (hq:wrap64 (ad*bd)=q) :
  Calls Tryz.prog 263 #[.agg #[I a0,I a1,I a2,I a3,I a4,I a5,I a6,I a7,I an,I ad],.agg #[I b0,I b1,I b2,I b3,I b4,I b5,I b6,I b7,I bn,I bd]] w fun r w'=>r=.returned (.agg #[I c0,I c1,I c2,I c3,I c4,I c5,I c6,I c7,I p,I q])∧Below w.heap.size w w':=by
 subst hp hq
 unfold mulL at h
 simp only[List.cons.injEq,and_true]at h
 obtain⟨rfl,rfl,rfl,rfl,rfl,rfl,rfl,rfl⟩:=h
 exact amTimes_any a0 a1 a2 a3 a4 a5 a6 a7 an ad b0 b1 b2 b3 b4 b5 b6 b7 bn bd _ _ _ _ _ _ _ _ _ w (fun W=>Dm.mul_any W.heap.size 0 2 2 (X2 [a0,a1,a2,a3,a4,a5,a6,a7,b0,b1,b2,b3,b4,b5,b6,b7]) _ (by decide) (dims_new W a0 a1 a2 a3 a4 a5 a6 a7 b0 b1 b2 b3 b4 b5 b6 b7))
theorem by_of (a0 a1 a2 a3 a4 a5 a6 a7 an ad b0 b1 b2 b3 b4 b5 b6 b7 bn bd c0 c1 c2 c3 c4 c5 c6 c7 p q:Int) (w:World) (h:quoL [a0,a1,a2,a3,a4,a5,a6,a7] [b0,b1,b2,b3,b4,b5,b6,b7] [wrap64 (a0 - b0),wrap64 (a1 - b1),wrap64 (a2 - b2),wrap64 (a3 - b3),wrap64 (a4 - b4),wrap64 (a5 - b5),wrap64 (a6 - b6),wrap64 (a7 - b7)]=[c0,c1,c2,c3,c4,c5,c6,c7]) (hp:wrap64 (an*bd)=p) (hq:wrap64 (ad*bn)=q) :
  Calls Tryz.prog 262 #[.agg #[I a0,I a1,I a2,I a3,I a4,I a5,I a6,I a7,I an,I ad],.agg #[I b0,I b1,I b2,I b3,I b4,I b5,I b6,I b7,I bn,I bd]] w fun r w'=>r=.returned (.agg #[I c0,I c1,I c2,I c3,I c4,I c5,I c6,I c7,I p,I q])∧Below w.heap.size w w':=by
 subst hp hq
 unfold quoL at h
 simp only[List.map_cons,List.map_nil,List.cons.injEq,and_true]at h
 obtain⟨rfl,rfl,rfl,rfl,rfl,rfl,rfl,rfl⟩:=h
 exact amBy_any a0 a1 a2 a3 a4 a5 a6 a7 an ad b0 b1 b2 b3 b4 b5 b6 b7 bn bd _ _ _ _ _ _ _ _ _ w (fun W=>Dm.quo_any a0 a1 a2 a3 a4 a5 a6 a7 b0 b1 b2 b3 b4 b5 b6 b7 W)
theorem OwnU.set {W:World} {g ty:Nat} {vs:Array Value} (h:OwnU W g ty vs) (i:Nat) (v:Value):OwnU (W.setCell ⟨g,i,none⟩ v) g ty (vs.setIfInBounds i v):=by
 unfold OwnU at h ⊢
 simp only[World.setCell,Array.getElem?_modify,h,Option.map_some]
 simp
theorem OwnU.otherSet {W:World} {g k ty:Nat} {vs:Array Value} (h:OwnU W g ty vs) (hk:¬g=k) (o:Nat) (v:Value):OwnU (W.setCell ⟨k,o,none⟩ v) g ty vs:=(Below.heap_setCell W ⟨k,o,none⟩ v g hk).trans h
theorem OwnU.past {W V:World} {vs:Array Value} {ty:Nat} (h:Below (W.alloc (.cells vs ty)).heap.size (W.alloc (.cells vs ty)) V):OwnU V W.heap.size ty vs:=(OwnU.new W vs ty).later h
theorem OwnU.pastD {W V:World} {vs:Array Value} {ty:Nat} (h:Below (W.alloc (.cells vs ty)).drew.heap.size (W.alloc (.cells vs ty)).drew V):OwnU V W.heap.size ty vs:=((OwnU.new W vs ty).later (Below.refl _ _).drew).later h
theorem bel_al {U W V:World} {O:Obj} (h:Below U.heap.size U W) (hb:Below (W.alloc O).heap.size (W.alloc O) V):Below U.heap.size U V :=
 (h.alloc h.size O).trans (hb.mono (h.alloc h.size O).size)
theorem bel_alD {W V:World} {O:Obj} (hb:Below (W.alloc O).drew.heap.size (W.alloc O).drew V):Below W.heap.size W V :=
 have h0:=(Below.refl W.heap.size W).alloc (Nat.le_refl _) O
 have h:Below W.heap.size W (W.alloc O).drew:=h0.trans ((Below.refl _ _).drew.mono h0.size)
 h.trans (hb.mono h.size)
set_option maxRecDepth 100000 in
set_option maxHeartbeats 4000000 in
theorem bit_made (w:World):Calls Tryz.prog 218 #[] w fun r w'=>r=.returned (.agg #[I 0,I 0,I 0,I 0,I 0,I 0,I 0,I 1,I 1,I 1])∧Below w.heap.size w w':=by
 obtain⟨V,hV⟩:∃V,V=w.alloc (.cells #[I 0,I 0,I 0,I 0,I 0,I 0,I 0,I 0,I 0,I 0] 235):=⟨_,rfl⟩
 have HR:Hid (OwnU V w.heap.size 235 #[I 0,I 0,I 0,I 0,I 0,I 0,I 0,I 0,I 0,I 0]):=by rw[hV];exact OwnU.new _ _ _
 have HB:Hid (Below w.heap.size w V):=by rw[hV];exact(Below.refl _ _).alloc (Nat.le_refl _) _
 have HV:=hide hV
 clear hV
 go_enter Tryz.func218,Tryz.ntmps218
 go_upto_region 1 with fail
 rw[←un HV]
 clear HV
 go_wp2_with fail
 refine(fixed_any 0 0 0 0 0 0 0 1 _).mono ?_
 rintro e W ⟨rfl,hb⟩
 have HR1:=hide ((un HR).later hb);have HB1:=hide ((un HB).trans (hb.mono (un HB).size))
 clear HR HB hb
 have HR:=HR1;have HB:=HB1
 clear HR1 HB1
 go_wp2_with (refine storeT 235 10 info43 rfl (.tmp 0) (.tmp 2) rfl w.heap.size #[I 0,I 0,I 0,I 0,I 0,I 0,I 0,I 0,I 0,I 0] #[I 0,I 0,I 0,I 0,I 0,I 0,I 0,I 1,I 1,I 1] rfl rfl rfl rfl (un HR) (by kernel_rfl) ?_)
 exact bodyPost_ret (v:=.agg #[I 0,I 0,I 0,I 0,I 0,I 0,I 0,I 1,I 1,I 1]) (res43 Tryz.results218 _ _ w.heap.size _ rfl rfl ((un HR).setRow _)) rfl ⟨rfl,below_setRow (un HB) (Nat.le_refl _) _⟩
set_option maxRecDepth 100000 in
set_option maxHeartbeats 4000000 in
theorem mole_made (w:World):Calls Tryz.prog 219 #[] w fun r w'=>r=.returned (.agg #[I 0,I 0,I 0,I 0,I 0,I 1,I 0,I 0,I 1,I 1])∧Below w.heap.size w w':=by
 obtain⟨V,hV⟩:∃V,V=w.alloc (.cells #[I 0,I 0,I 0,I 0,I 0,I 0,I 0,I 0,I 0,I 0] 235):=⟨_,rfl⟩
 have HR:Hid (OwnU V w.heap.size 235 #[I 0,I 0,I 0,I 0,I 0,I 0,I 0,I 0,I 0,I 0]):=by rw[hV];exact OwnU.new _ _ _
 have HB:Hid (Below w.heap.size w V):=by rw[hV];exact(Below.refl _ _).alloc (Nat.le_refl _) _
 have HV:=hide hV
 clear hV
 go_enter Tryz.func219,Tryz.ntmps219
 go_upto_region 1 with fail
 rw[←un HV]
 clear HV
 go_wp2_with fail
 refine(number_any 1 _).mono ?_
 rintro e W ⟨rfl,hb⟩
 have HR1:=hide ((un HR).later hb);have HB1:=hide ((un HB).trans (hb.mono (un HB).size))
 clear HR HB hb
 have HR:=HR1;have HB:=HB1
 clear HR1 HB1
 go_wp2_with fail
 refine(fixed_any 0 0 0 0 0 (-1) 0 0 _).mono ?_
 rintro e W ⟨rfl,hb⟩
 have HR1:=hide ((un HR).later hb);have HB1:=hide ((un HB).trans (hb.mono (un HB).size))
 clear HR HB hb
 have HR:=HR1;have HB:=HB1
 clear HR1 HB1
 go_wp2_with fail
 refine(by_of 0 0 0 0 0 0 0 0 1 1 0 0 0 0 0 (-1) 0 0 1 1 0 0 0 0 0 1 0 0 1 1 _ (by decide +kernel) (by decide +kernel) (by decide +kernel)).mono ?_
 rintro e W ⟨rfl,hb⟩
 have HR1:=hide ((un HR).later hb);have HB1:=hide ((un HB).trans (hb.mono (un HB).size))
 clear HR HB hb
 have HR:=HR1;have HB:=HB1
 clear HR1 HB1
 go_wp2_with (refine storeT 235 10 info43 rfl (.tmp 0) (.tmp 4) rfl w.heap.size #[I 0,I 0,I 0,I 0,I 0,I 0,I 0,I 0,I 0,I 0] #[I 0,I 0,I 0,I 0,I 0,I 1,I 0,I 0,I 1,I 1] rfl rfl rfl rfl (un HR) (by kernel_rfl) ?_)
 exact bodyPost_ret (v:=.agg #[I 0,I 0,I 0,I 0,I 0,I 1,I 0,I 0,I 1,I 1]) (res43 Tryz.results219 _ _ w.heap.size _ rfl rfl ((un HR).setRow _)) rfl ⟨rfl,below_setRow (un HB) (Nat.le_refl _) _⟩
set_option maxRecDepth 100000 in
set_option maxHeartbeats 4000000 in
theorem second_made (w:World):Calls Tryz.prog 220 #[] w fun r w'=>r=.returned (.agg #[I 0,I 0,I 1,I 0,I 0,I 0,I 0,I 0,I 1,I 1])∧Below w.heap.size w w':=by
 obtain⟨V,hV⟩:∃V,V=w.alloc (.cells #[I 0,I 0,I 0,I 0,I 0,I 0,I 0,I 0,I 0,I 0] 235):=⟨_,rfl⟩
 have HR:Hid (OwnU V w.heap.size 235 #[I 0,I 0,I 0,I 0,I 0,I 0,I 0,I 0,I 0,I 0]):=by rw[hV];exact OwnU.new _ _ _
 have HB:Hid (Below w.heap.size w V):=by rw[hV];exact(Below.refl _ _).alloc (Nat.le_refl _) _
 have HV:=hide hV
 clear hV
 go_enter Tryz.func220,Tryz.ntmps220
 go_upto_region 1 with fail
 rw[←un HV]
 clear HV
 go_wp2_with fail
 refine(number_any 1 _).mono ?_
 rintro e W ⟨rfl,hb⟩
 have HR1:=hide ((un HR).later hb);have HB1:=hide ((un HB).trans (hb.mono (un HB).size))
 clear HR HB hb
 have HR:=HR1;have HB:=HB1
 clear HR1 HB1
 go_wp2_with fail
 refine(fixed_any 0 0 (-1) 0 0 0 0 0 _).mono ?_
 rintro e W ⟨rfl,hb⟩
 have HR1:=hide ((un HR).later hb);have HB1:=hide ((un HB).trans (hb.mono (un HB).size))
 clear HR HB hb
 have HR:=HR1;have HB:=HB1
 clear HR1 HB1
 go_wp2_with fail
 refine(by_of 0 0 0 0 0 0 0 0 1 1 0 0 (-1) 0 0 0 0 0 1 1 0 0 1 0 0 0 0 0 1 1 _ (by decide +kernel) (by decide +kernel) (by decide +kernel)).mono ?_
 rintro e W ⟨rfl,hb⟩
 have HR1:=hide ((un HR).later hb);have HB1:=hide ((un HB).trans (hb.mono (un HB).size))
 clear HR HB hb
 have HR:=HR1;have HB:=HB1
 clear HR1 HB1
 go_wp2_with (refine storeT 235 10 info43 rfl (.tmp 0) (.tmp 4) rfl w.heap.size #[I 0,I 0,I 0,I 0,I 0,I 0,I 0,I 0,I 0,I 0] #[I 0,I 0,I 1,I 0,I 0,I 0,I 0,I 0,I 1,I 1] rfl rfl rfl rfl (un HR) (by kernel_rfl) ?_)
 exact bodyPost_ret (v:=.agg #[I 0,I 0,I 1,I 0,I 0,I 0,I 0,I 0,I 1,I 1]) (res43 Tryz.results220 _ _ w.heap.size _ rfl rfl ((un HR).setRow _)) rfl ⟨rfl,below_setRow (un HB) (Nat.le_refl _) _⟩
set_option maxRecDepth 100000 in
set_option maxHeartbeats 4000000 in
theorem ampere_made (w:World):Calls Tryz.prog 221 #[] w fun r w'=>r=.returned (.agg #[I 0,I 0,I 0,I 1,I 0,I 0,I 0,I 0,I 1,I 1])∧Below w.heap.size w w':=by
 obtain⟨V,hV⟩:∃V,V=w.alloc (.cells #[I 0,I 0,I 0,I 0,I 0,I 0,I 0,I 0,I 0,I 0] 235):=⟨_,rfl⟩
 have HR:Hid (OwnU V w.heap.size 235 #[I 0,I 0,I 0,I 0,I 0,I 0,I 0,I 0,I 0,I 0]):=by rw[hV];exact OwnU.new _ _ _
 have HB:Hid (Below w.heap.size w V):=by rw[hV];exact(Below.refl _ _).alloc (Nat.le_refl _) _
 have HV:=hide hV
 clear hV
 go_enter Tryz.func221,Tryz.ntmps221
 go_upto_region 1 with fail
 rw[←un HV]
 clear HV
 go_wp2_with fail
 refine(fixed_any 0 0 1 1 0 0 0 0 _).mono ?_
 rintro e W ⟨rfl,hb⟩
 have HR1:=hide ((un HR).later hb);have HB1:=hide ((un HB).trans (hb.mono (un HB).size))
 clear HR HB hb
 have HR:=HR1;have HB:=HB1
 clear HR1 HB1
 go_wp2_with fail
 refine(second_made _).mono ?_
 rintro e W ⟨rfl,hb⟩
 have HR1:=hide ((un HR).later hb);have HB1:=hide ((un HB).trans (hb.mono (un HB).size))
 clear HR HB hb
 have HR:=HR1;have HB:=HB1
 clear HR1 HB1
 go_wp2_with fail
 refine(by_of 0 0 1 1 0 0 0 0 1 1 0 0 1 0 0 0 0 0 1 1 0 0 0 1 0 0 0 0 1 1 _ (by decide +kernel) (by decide +kernel) (by decide +kernel)).mono ?_
 rintro e W ⟨rfl,hb⟩
 have HR1:=hide ((un HR).later hb);have HB1:=hide ((un HB).trans (hb.mono (un HB).size))
 clear HR HB hb
 have HR:=HR1;have HB:=HB1
 clear HR1 HB1
 go_wp2_with (refine storeT 235 10 info43 rfl (.tmp 0) (.tmp 4) rfl w.heap.size #[I 0,I 0,I 0,I 0,I 0,I 0,I 0,I 0,I 0,I 0] #[I 0,I 0,I 0,I 1,I 0,I 0,I 0,I 0,I 1,I 1] rfl rfl rfl rfl (un HR) (by kernel_rfl) ?_)
 exact bodyPost_ret (v:=.agg #[I 0,I 0,I 0,I 1,I 0,I 0,I 0,I 0,I 1,I 1]) (res43 Tryz.results221 _ _ w.heap.size _ rfl rfl ((un HR).setRow _)) rfl ⟨rfl,below_setRow (un HB) (Nat.le_refl _) _⟩
set_option maxRecDepth 100000 in
set_option maxHeartbeats 4000000 in
theorem metre_made (w:World):Calls Tryz.prog 222 #[] w fun r w'=>r=.returned (.agg #[I 1,I 0,I 0,I 0,I 0,I 0,I 0,I 0,I 1,I 1])∧Below w.heap.size w w':=by
 obtain⟨V,hV⟩:∃V,V=w.alloc (.cells #[I 0,I 0,I 0,I 0,I 0,I 0,I 0,I 0,I 0,I 0] 235):=⟨_,rfl⟩
 have HR:Hid (OwnU V w.heap.size 235 #[I 0,I 0,I 0,I 0,I 0,I 0,I 0,I 0,I 0,I 0]):=by rw[hV];exact OwnU.new _ _ _
 have HB:Hid (Below w.heap.size w V):=by rw[hV];exact(Below.refl _ _).alloc (Nat.le_refl _) _
 have HV:=hide hV
 clear hV
 go_enter Tryz.func222,Tryz.ntmps222
 go_upto_region 1 with fail
 rw[←un HV]
 clear HV
 go_wp2_with fail
 refine(fixed_any 1 0 (-1) 0 0 0 0 0 _).mono ?_
 rintro e W ⟨rfl,hb⟩
 have HR1:=hide ((un HR).later hb);have HB1:=hide ((un HB).trans (hb.mono (un HB).size))
 clear HR HB hb
 have HR:=HR1;have HB:=HB1
 clear HR1 HB1
 go_wp2_with fail
 refine(second_made _).mono ?_
 rintro e W ⟨rfl,hb⟩
 have HR1:=hide ((un HR).later hb);have HB1:=hide ((un HB).trans (hb.mono (un HB).size))
 clear HR HB hb
 have HR:=HR1;have HB:=HB1
 clear HR1 HB1
 go_wp2_with fail
 refine(times_of 1 0 (-1) 0 0 0 0 0 1 1 0 0 1 0 0 0 0 0 1 1 1 0 0 0 0 0 0 0 1 1 _ (by decide +kernel) (by decide +kernel) (by decide +kernel)).mono ?_
 rintro e W ⟨rfl,hb⟩
 have HR1:=hide ((un HR).later hb);have HB1:=hide ((un HB).trans (hb.mono (un HB).size))
 clear HR HB hb
 have HR:=HR1;have HB:=HB1
 clear HR1 HB1
 go_wp2_with (refine storeT 235 10 info43 rfl (.tmp 0) (.tmp 4) rfl w.heap.size #[I 0,I 0,I 0,I 0,I 0,I 0,I 0,I 0,I 0,I 0] #[I 1,I 0,I 0,I 0,I 0,I 0,I 0,I 0,I 1,I 1] rfl rfl rfl rfl (un HR) (by kernel_rfl) ?_)
 exact bodyPost_ret (v:=.agg #[I 1,I 0,I 0,I 0,I 0,I 0,I 0,I 0,I 1,I 1]) (res43 Tryz.results222 _ _ w.heap.size _ rfl rfl ((un HR).setRow _)) rfl ⟨rfl,below_setRow (un HB) (Nat.le_refl _) _⟩
end Go.Proofs.YtliadckofhblnaaGreatDoor

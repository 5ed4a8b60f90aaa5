/- si's units: one table. -/
import Derived.Test.YtliadckofhblnaaGreatDoorLimb3
import Derived.Test.YtliadckofhblnaaGreatDoorSi6
import Derived.Test.YtliadckofhblnaaGreatDoorSi10
import Derived.Test.YtliadckofhblnaaGreatDoorSi14a
import Derived.Test.YtliadckofhblnaaGreatDoorReads2
namespace Go.Proofs.YtliadckofhblnaaGreatDoor
open Go.RowKit
set_option maxRecDepth 100000 in
set_option maxHeartbeats 4000000 in
theorem grp_light (b1:Nat) (w:World) (h1:OwnU w b1 180 #[I 0,I 0,I 0,I 0,I 0,I 0,I 0,I 0,I 1,I 1]):Calls Tryz.prog 312 #[.func (.func 324) #[] #[.pointer (some ⟨b1,0,none⟩)]] w fun e w'=>e=.returned (.agg g_light2)∧Below w.heap.size w w':=by
 obtain⟨V,hV⟩:∃V,V=(w.alloc (.cells Tryz.zeroCells286 286)).alloc (.cells Tryz.zeroCells286 286):=⟨_,rfl⟩
 obtain⟨g,hg⟩:∃g,g=w.heap.size+1:=⟨_,rfl⟩
 have HW:Hid (Below w.heap.size w V):=by rw[hV];exact((Below.refl _ _).alloc (Nat.le_refl _) _).alloc (by simp) _
 have HR:Hid (OwnU V w.heap.size 286 gZero):=by rw[hV,←zc91];exact(OwnU.new w _ 286).alloc _
 have HG:Hid (OwnU V g 286 gZero):=by rw[hV,hg,←zc91];have h:=OwnU.new (w.alloc (.cells Tryz.zeroCells286 286)) Tryz.zeroCells286 286;rw[Dm.size_alloc]at h;exact h
 have HC1:Hid (OwnU V b1 180 #[I 0,I 0,I 0,I 0,I 0,I 0,I 0,I 0,I 1,I 1]∧¬b1=g):=⟨h1.later (un HW),(by have:=h1.lt;omega)⟩
 have HN:Hid (¬w.heap.size=g∧w.heap.size≤g∧w.heap.size≤V.heap.size):=⟨by omega,by omega,(un HW).size⟩
 have HV:=hide hV
 clear hV h1
 go_enter Tryz.func312,Tryz.ntmps312
 go_upto_region 2 with fail
 rw[←un HV,←hg]
 clear HV hg
 go_upto_region 3 with (go_at_call 324;go_must(refine(fill_light g b1 _ (un HG) (un HC1).1 (un HC1).2).mono ?_;rintro e w1 ⟨rfl,hg1,ho1⟩;have HG1:=hide hg1;have HR1:=hide (ho1.own _ _ _ (un HN).1 (un HR));have HW1:=hide (ho1.bel w.heap.size w (un HN).2.1 (un HN).2.2 (un HW));clear hg1 ho1))
 go_wp2_with (first
  | (refine wpList_load_row rfl 286 (.tmp 3) rfl g rfl 286 g_light2 (0,0) _ (un HG1) Tryz.underlying286 rfl (by kernel_rfl) ?_)
  | (refine storeT 286 81 info91 rfl (.tmp 2) (.tmp 7) rfl w.heap.size gZero g_light2 rfl rfl rfl rfl (un HR1) (by kernel_rfl) ?_))
 exact bodyPost_ret (v:=.agg g_light2) (res91 Tryz.results312 _ _ w.heap.size _ rfl rfl ((un HR1).setRow _)) rfl ⟨rfl,below_setRow (un HW1) (Nat.le_refl _) _⟩
theorem fld_light (w:World):(Instr.field 286 (.agg g_plane2) 0).run Tryz.prog w=.ok (.agg (g_plane2.extract 0 80)) w:=by kernel_rfl
theorem idx_light (w:World):(Instr.index 284 (.agg (g_plane2.extract 0 80)) (I 1)).run Tryz.prog w=.ok (.agg #[I 0,I 0,I 0,I 0,I 0,I 0,I 0,I 0,I 1,I 1]) w:=by kernel_rfl
set_option maxRecDepth 100000 in
set_option maxHeartbeats 4000000 in
theorem made_light (w:World):Calls Tryz.prog 293 #[] w fun e w'=>e=.returned (.agg g_light2)∧Below w.heap.size w w':=by
 obtain⟨V,hV⟩:∃V,V=w.alloc (.cells Tryz.zeroCells286 286):=⟨_,rfl⟩
 have HW:Hid (Below w.heap.size w V):=by rw[hV];exact(Below.refl _ _).alloc (Nat.le_refl _) _
 have HR:Hid (OwnU V w.heap.size 286 gZero):=by rw[hV,←zc91];exact OwnU.new w _ 286
 have HV:=hide hV
 clear hV
 have hfl:=fld_light
 have hix:=idx_light
 go_enter Tryz.func293,Tryz.ntmps293
 go_upto_region 1 with fail
 rw[←un HV]
 clear HV
 go_upto_region 2 with (first
  | (go_at_call 292;go_must(refine(made_plane _).mono ?_;rintro e w1 ⟨rfl,hb⟩;have HR1:=hide ((un HR).later hb);have HW1:=hide ((un HW).trans (hb.mono (un HW).size));clear hb))
  | (refine storeT 180 10 info55 rfl (.tmp 1) (.tmp 4) rfl w1.heap.size #[I 0,I 0,I 0,I 0,I 0,I 0,I 0,I 0,I 0,I 0] #[I 0,I 0,I 0,I 0,I 0,I 0,I 0,I 0,I 1,I 1] rfl rfl rfl rfl (OwnU.new _ _ _) (by kernel_rfl) ?_))
 have hb2:Below w1.heap.size w1 ((w1.alloc (.cells #[I 0,I 0,I 0,I 0,I 0,I 0,I 0,I 0,I 0,I 0] 180)).setRow w1.heap.size #[I 0,I 0,I 0,I 0,I 0,I 0,I 0,I 0,I 1,I 1]):=below_setRow (albel _ _) (Nat.le_refl _) _
 have HB2:Hid (OwnU ((w1.alloc (.cells #[I 0,I 0,I 0,I 0,I 0,I 0,I 0,I 0,I 0,I 0] 180)).setRow w1.heap.size #[I 0,I 0,I 0,I 0,I 0,I 0,I 0,I 0,I 1,I 1]) w1.heap.size 180 #[I 0,I 0,I 0,I 0,I 0,I 0,I 0,I 0,I 1,I 1]):=(OwnU.new _ _ _).setRow _
 have HR2:=hide ((un HR1).later hb2)
 have HW2:=hide ((un HW1).trans (hb2.mono (un HW1).size))
 clear hb2 hfl hix
 generalize (w1.alloc (.cells #[I 0,I 0,I 0,I 0,I 0,I 0,I 0,I 0,I 0,I 0] 180)).setRow w1.heap.size #[I 0,I 0,I 0,I 0,I 0,I 0,I 0,I 0,I 1,I 1]=w2 at *
 generalize w1.heap.size=b1 at *
 go_wp2_with (first
  | (go_at_call 312;go_must(refine(grp_light b1 _ (un HB2)).mono ?_;rintro e w3 ⟨rfl,hb⟩;have HR3:=hide ((un HR2).later hb);have HW3:=hide ((un HW2).trans (hb.mono (un HW2).size));clear hb))
  | (refine storeT 286 81 info91 rfl (.tmp 0) (.tmp 6) rfl w.heap.size gZero g_light2 rfl rfl rfl rfl (un HR3) (by kernel_rfl) ?_))
 exact bodyPost_ret (v:=.agg g_light2) (res91 Tryz.results293 _ _ w.heap.size _ rfl rfl ((un HR3).setRow _)) rfl ⟨rfl,below_setRow (un HW3) (Nat.le_refl _) _⟩
set_option maxRecDepth 100000 in
set_option maxHeartbeats 4000000 in
theorem grp_rays (b1:Nat) (b2:Nat) (w:World) (h1:OwnU w b1 180 #[I 0,I 0,I (-1),I 0,I 0,I 0,I 0,I 0,I 1,I 1]) (h2:OwnU w b2 180 #[I 2,I 1,I (-2),I 0,I 0,I 0,I 0,I 0,I 1,I 1]):Calls Tryz.prog 312 #[.func (.func 322) #[] #[.pointer (some ⟨b1,0,none⟩),.pointer (some ⟨b2,0,none⟩)]] w fun e w'=>e=.returned (.agg g_rays4)∧Below w.heap.size w w':=by
 obtain⟨V,hV⟩:∃V,V=(w.alloc (.cells Tryz.zeroCells286 286)).alloc (.cells Tryz.zeroCells286 286):=⟨_,rfl⟩
 obtain⟨g,hg⟩:∃g,g=w.heap.size+1:=⟨_,rfl⟩
 have HW:Hid (Below w.heap.size w V):=by rw[hV];exact((Below.refl _ _).alloc (Nat.le_refl _) _).alloc (by simp) _
 have HR:Hid (OwnU V w.heap.size 286 gZero):=by rw[hV,←zc91];exact(OwnU.new w _ 286).alloc _
 have HG:Hid (OwnU V g 286 gZero):=by rw[hV,hg,←zc91];have h:=OwnU.new (w.alloc (.cells Tryz.zeroCells286 286)) Tryz.zeroCells286 286;rw[Dm.size_alloc]at h;exact h
 have HC1:Hid (OwnU V b1 180 #[I 0,I 0,I (-1),I 0,I 0,I 0,I 0,I 0,I 1,I 1]∧¬b1=g):=⟨h1.later (un HW),(by have:=h1.lt;omega)⟩
 have HC2:Hid (OwnU V b2 180 #[I 2,I 1,I (-2),I 0,I 0,I 0,I 0,I 0,I 1,I 1]∧¬b2=g):=⟨h2.later (un HW),(by have:=h2.lt;omega)⟩
 have HN:Hid (¬w.heap.size=g∧w.heap.size≤g∧w.heap.size≤V.heap.size):=⟨by omega,by omega,(un HW).size⟩
 have HV:=hide hV
 clear hV h1 h2
 go_enter Tryz.func312,Tryz.ntmps312
 go_upto_region 2 with fail
 rw[←un HV,←hg]
 clear HV hg
 go_upto_region 3 with (go_at_call 322;go_must(refine(fill_rays g b1 b2 _ (un HG) (un HC1).1 (un HC1).2 (un HC2).1 (un HC2).2).mono ?_;rintro e w1 ⟨rfl,hg1,ho1⟩;have HG1:=hide hg1;have HR1:=hide (ho1.own _ _ _ (un HN).1 (un HR));have HW1:=hide (ho1.bel w.heap.size w (un HN).2.1 (un HN).2.2 (un HW));clear hg1 ho1))
 go_wp2_with (first
  | (refine wpList_load_row rfl 286 (.tmp 3) rfl g rfl 286 g_rays4 (0,0) _ (un HG1) Tryz.underlying286 rfl (by kernel_rfl) ?_)
  | (refine storeT 286 81 info91 rfl (.tmp 2) (.tmp 7) rfl w.heap.size gZero g_rays4 rfl rfl rfl rfl (un HR1) (by kernel_rfl) ?_))
 exact bodyPost_ret (v:=.agg g_rays4) (res91 Tryz.results312 _ _ w.heap.size _ rfl rfl ((un HR1).setRow _)) rfl ⟨rfl,below_setRow (un HW1) (Nat.le_refl _) _⟩
theorem fld_rays1 (w:World):(Instr.field 286 (.agg g_energy1) 0).run Tryz.prog w=.ok (.agg (g_energy1.extract 0 80)) w:=by kernel_rfl
theorem idx_rays1 (w:World):(Instr.index 284 (.agg (g_energy1.extract 0 80)) (I 0)).run Tryz.prog w=.ok (.agg #[I 2,I 1,I (-2),I 0,I 0,I 0,I 0,I 0,I 1,I 1]) w:=by kernel_rfl
theorem fld_rays2 (w:World):(Instr.field 286 (.agg g_times1) 0).run Tryz.prog w=.ok (.agg (g_times1.extract 0 80)) w:=by kernel_rfl
theorem idx_rays2 (w:World):(Instr.index 284 (.agg (g_times1.extract 0 80)) (I 0)).run Tryz.prog w=.ok (.agg #[I 0,I 0,I (-1),I 0,I 0,I 0,I 0,I 0,I 1,I 1]) w:=by kernel_rfl
set_option maxRecDepth 100000 in
set_option maxHeartbeats 4000000 in
theorem made_rays (w:World):Calls Tryz.prog 291 #[] w fun e w'=>e=.returned (.agg g_rays4)∧Below w.heap.size w w':=by
 obtain⟨V,hV⟩:∃V,V=w.alloc (.cells Tryz.zeroCells286 286):=⟨_,rfl⟩
 have HW:Hid (Below w.heap.size w V):=by rw[hV];exact(Below.refl _ _).alloc (Nat.le_refl _) _
 have HR:Hid (OwnU V w.heap.size 286 gZero):=by rw[hV,←zc91];exact OwnU.new w _ 286
 have HV:=hide hV
 clear hV
 have hfl:=fld_rays1
 have hix:=idx_rays1
 have hfm:=fld_rays2
 have hiy:=idx_rays2
 go_enter Tryz.func291,Tryz.ntmps291
 go_upto_region 1 with fail
 rw[←un HV]
 clear HV
 go_upto_region 2 with (first
  | (go_at_call 287;go_must(refine(made_energy _).mono ?_;rintro e w1 ⟨rfl,hb⟩;have HR1:=hide ((un HR).later hb);have HW1:=hide ((un HW).trans (hb.mono (un HW).size));clear hb))
  | (go_at_call 290;go_must(refine(made_times _).mono ?_;rintro e w2 ⟨rfl,hb⟩;have HR2:=hide ((un HR1).later hb);have HW2:=hide ((un HW1).trans (hb.mono (un HW1).size));clear hb)))
 clear hfl hix hfm hiy
 obtain⟨U,hU⟩:∃U,U=(w2.alloc (.cells #[I 2,I 1,I (-2),I 0,I 0,I 0,I 0,I 0,I 1,I 1] 180)).alloc (.cells #[I 0,I 0,I (-1),I 0,I 0,I 0,I 0,I 0,I 1,I 1] 180):=⟨_,rfl⟩
 have hbU:Below w2.heap.size w2 U:=by rw[hU];exact((Below.refl _ _).alloc (Nat.le_refl _) _).alloc (by simp) _
 have HJ:Hid (OwnU U w2.heap.size 180 #[I 2,I 1,I (-2),I 0,I 0,I 0,I 0,I 0,I 1,I 1]):=by rw[hU];exact(OwnU.new _ _ _).alloc _
 have HH:Hid (OwnU U (w2.heap.size+1) 180 #[I 0,I 0,I (-1),I 0,I 0,I 0,I 0,I 0,I 1,I 1]):=by rw[hU];have h:=OwnU.new (w2.alloc (.cells #[I 2,I 1,I (-2),I 0,I 0,I 0,I 0,I 0,I 1,I 1] 180)) #[I 0,I 0,I (-1),I 0,I 0,I 0,I 0,I 0,I 1,I 1] 180;rw[Dm.size_alloc]at h;exact h
 have HR3:=hide ((un HR2).later hbU)
 have HW3:=hide ((un HW2).trans (hbU.mono (un HW2).size))
 rw[←hU]
 clear hU hbU
 obtain⟨c1,hc1⟩:∃c1,c1=w2.heap.size+1:=⟨_,rfl⟩
 rw[←hc1]at HH ⊢
 clear hc1
 generalize w2.heap.size=c2 at *
 go_wp2_with (first
  | (go_at_call 312;go_must(refine(grp_rays c1 c2 _ (un HH) (un HJ)).mono ?_;rintro e w4 ⟨rfl,hb⟩;have HR4:=hide ((un HR3).later hb);have HW4:=hide ((un HW3).trans (hb.mono (un HW3).size));clear hb))
  | (refine storeT 286 81 info91 rfl (.tmp 0) (.tmp 10) rfl w.heap.size gZero g_rays4 rfl rfl rfl rfl (un HR4) (by kernel_rfl) ?_))
 exact bodyPost_ret (v:=.agg g_rays4) (res91 Tryz.results291 _ _ w.heap.size _ rfl rfl ((un HR4).setRow _)) rfl ⟨rfl,below_setRow (un HW4) (Nat.le_refl _) _⟩
end Go.Proofs.YtliadckofhblnaaGreatDoor

namespace Go.Proofs.YtliadckofhblnaaGreatDoor
open Go.RowKit
def labs:Array Value:=#[.string ⟨#[110,101,119,116,111,110]⟩,.string ⟨#[78]⟩,I 1,.string ⟨#[112,97,115,99,97,108]⟩,.string ⟨#[80,97]⟩,I 1,.string ⟨#[106,111,117,108,101]⟩,.string ⟨#[74]⟩,I 1,.string ⟨#[119,97,116,116]⟩,.string ⟨#[87]⟩,I 1,.string ⟨#[99,111,117,108,111,109,98]⟩,.string ⟨#[67]⟩,I 1,.string ⟨#[118,111,108,116]⟩,.string ⟨#[86]⟩,I 1,.string ⟨#[102,97,114,97,100]⟩,.string ⟨#[70]⟩,I 1,.string ⟨#[111,104,109]⟩,.string ⟨#[206,169]⟩,I 1,.string ⟨#[115,105,101,109,101,110,115]⟩,.string ⟨#[83]⟩,I 1,.string ⟨#[119,101,98,101,114]⟩,.string ⟨#[87,98]⟩,I 1,.string ⟨#[116,101,115,108,97]⟩,.string ⟨#[84]⟩,I 1,.string ⟨#[104,101,110,114,121]⟩,.string ⟨#[72]⟩,I 1,.string ⟨#[104,101,114,116,122]⟩,.string ⟨#[72,122]⟩,I 1,.string ⟨#[98,101,99,113,117,101,114,101,108]⟩,.string ⟨#[66,113]⟩,I 1,.string ⟨#[103,114,97,121]⟩,.string ⟨#[71,121]⟩,I 1,.string ⟨#[115,105,101,118,101,114,116]⟩,.string ⟨#[83,118]⟩,I 1,.string ⟨#[107,97,116,97,108]⟩,.string ⟨#[107,97,116]⟩,I 1,.string ⟨#[114,97,100,105,97,110]⟩,.string ⟨#[114,97,100]⟩,I 1,.string ⟨#[115,116,101,114,97,100,105,97,110]⟩,.string ⟨#[115,114]⟩,I 1,.string ⟨#[108,117,109,101,110]⟩,.string ⟨#[108,109]⟩,I 1,.string ⟨#[108,117,120]⟩,.string ⟨#[108,120]⟩,I 1,.string ⟨#[109,105,110,117,116,101]⟩,.string ⟨#[109,105,110]⟩,I 0,.string ⟨#[104,111,117,114]⟩,.string ⟨#[104]⟩,I 0,.string ⟨#[100,97,121]⟩,.string ⟨#[100]⟩,I 0,.string ⟨#[108,105,116,114,101]⟩,.string ⟨#[76]⟩,I 1,.string ⟨#[116,111,110,110,101]⟩,.string ⟨#[116]⟩,I 1,.string ⟨#[98,97,114]⟩,.string ⟨#[98,97,114]⟩,I 1,.string ⟨#[104,101,99,116,97,114,101]⟩,.string ⟨#[104,97]⟩,I 0,.string ⟨#[98,121,116,101]⟩,.string ⟨#[66]⟩,I 3]
set_option maxRecDepth 100000 in
set_option maxHeartbeats 8000000 in
theorem labels_any (w:World):Calls Tryz.prog 265 #[] w fun r w'=>r=.returned (.slice (some ⟨w.heap.size,0,none⟩) 29 29)∧w'=w.alloc (.cells labs 178):=by
 go_enter Tryz.func265,Tryz.ntmps265
 go_wp2
 go_ret
 exact⟨rfl,rfl⟩
end Go.Proofs.YtliadckofhblnaaGreatDoor

namespace Go.Proofs.YtliadckofhblnaaGreatDoor
open Go.RowKit
structure Su where
 nm:ByteArray
 sy:ByteArray
 tk:Int
 e0:Int
 e1:Int
 e2:Int
 e3:Int
 e4:Int
 e5:Int
 e6:Int
 e7:Int
 n:Int
 d:Int
def sut:Nat→Su
 | 0=>⟨⟨#[110,101,119,116,111,110]⟩,⟨#[78]⟩,1,1,1,-2,0,0,0,0,0,1,1⟩
 | 1=>⟨⟨#[112,97,115,99,97,108]⟩,⟨#[80,97]⟩,1,-1,1,-2,0,0,0,0,0,1,1⟩
 | 2=>⟨⟨#[106,111,117,108,101]⟩,⟨#[74]⟩,1,2,1,-2,0,0,0,0,0,1,1⟩
 | 3=>⟨⟨#[119,97,116,116]⟩,⟨#[87]⟩,1,2,1,-3,0,0,0,0,0,1,1⟩
 | 4=>⟨⟨#[99,111,117,108,111,109,98]⟩,⟨#[67]⟩,1,0,0,1,1,0,0,0,0,1,1⟩
 | 5=>⟨⟨#[118,111,108,116]⟩,⟨#[86]⟩,1,2,1,-3,-1,0,0,0,0,1,1⟩
 | 6=>⟨⟨#[102,97,114,97,100]⟩,⟨#[70]⟩,1,-2,-1,4,2,0,0,0,0,1,1⟩
 | 7=>⟨⟨#[111,104,109]⟩,⟨#[206,169]⟩,1,2,1,-3,-2,0,0,0,0,1,1⟩
 | 8=>⟨⟨#[115,105,101,109,101,110,115]⟩,⟨#[83]⟩,1,-2,-1,3,2,0,0,0,0,1,1⟩
 | 9=>⟨⟨#[119,101,98,101,114]⟩,⟨#[87,98]⟩,1,2,1,-2,-1,0,0,0,0,1,1⟩
 | 10=>⟨⟨#[116,101,115,108,97]⟩,⟨#[84]⟩,1,0,1,-2,-1,0,0,0,0,1,1⟩
 | 11=>⟨⟨#[104,101,110,114,121]⟩,⟨#[72]⟩,1,2,1,-2,-2,0,0,0,0,1,1⟩
 | 12=>⟨⟨#[104,101,114,116,122]⟩,⟨#[72,122]⟩,1,0,0,-1,0,0,0,0,0,1,1⟩
 | 13=>⟨⟨#[98,101,99,113,117,101,114,101,108]⟩,⟨#[66,113]⟩,1,0,0,-1,0,0,0,0,0,1,1⟩
 | 14=>⟨⟨#[103,114,97,121]⟩,⟨#[71,121]⟩,1,2,0,-2,0,0,0,0,0,1,1⟩
 | 15=>⟨⟨#[115,105,101,118,101,114,116]⟩,⟨#[83,118]⟩,1,2,0,-2,0,0,0,0,0,1,1⟩
 | 16=>⟨⟨#[107,97,116,97,108]⟩,⟨#[107,97,116]⟩,1,0,0,-1,0,0,1,0,0,1,1⟩
 | 17=>⟨⟨#[114,97,100,105,97,110]⟩,⟨#[114,97,100]⟩,1,0,0,0,0,0,0,0,0,1,1⟩
 | 18=>⟨⟨#[115,116,101,114,97,100,105,97,110]⟩,⟨#[115,114]⟩,1,0,0,0,0,0,0,0,0,1,1⟩
 | 19=>⟨⟨#[108,117,109,101,110]⟩,⟨#[108,109]⟩,1,0,0,0,0,0,0,1,0,1,1⟩
 | 20=>⟨⟨#[108,117,120]⟩,⟨#[108,120]⟩,1,-2,0,0,0,0,0,1,0,1,1⟩
 | 21=>⟨⟨#[109,105,110,117,116,101]⟩,⟨#[109,105,110]⟩,0,0,0,1,0,0,0,0,0,60,1⟩
 | 22=>⟨⟨#[104,111,117,114]⟩,⟨#[104]⟩,0,0,0,1,0,0,0,0,0,3600,1⟩
 | 23=>⟨⟨#[100,97,121]⟩,⟨#[100]⟩,0,0,0,1,0,0,0,0,0,86400,1⟩
 | 24=>⟨⟨#[108,105,116,114,101]⟩,⟨#[76]⟩,1,3,0,0,0,0,0,0,0,1,1000⟩
 | 25=>⟨⟨#[116,111,110,110,101]⟩,⟨#[116]⟩,1,0,1,0,0,0,0,0,0,1000,1⟩
 | 26=>⟨⟨#[98,97,114]⟩,⟨#[98,97,114]⟩,1,-1,1,-2,0,0,0,0,0,100000,1⟩
 | 27=>⟨⟨#[104,101,99,116,97,114,101]⟩,⟨#[104,97]⟩,0,2,0,0,0,0,0,0,0,10000,1⟩
 | _=>⟨⟨#[98,121,116,101]⟩,⟨#[66]⟩,3,0,0,0,0,0,0,0,1,8,1⟩
def suL (s:Su):List Value:=[.string s.nm,.string s.sy,I s.tk,I s.e0,I s.e1,I s.e2,I s.e3,I s.e4,I s.e5,I s.e6,I s.e7,I s.n,I s.d]
def flatS (n:Nat):List Value:=(List.range n).flatMap fun i=>suL (sut i)
theorem flatS_succ (n:Nat):flatS (n+1)=flatS n ++ suL (sut n):=by
 unfold flatS
 rw[List.range_succ,List.flatMap_append]
 simp
def cntG:Nat→Nat
 | 0=>2
 | 1=>1
 | 2=>1
 | 3=>8
 | 4=>1
 | 5=>4
 | 6=>2
 | 7=>2
 | _=>8
def offG:Nat→Nat
 | 0=>0
 | 1=>2
 | 2=>3
 | 3=>4
 | 4=>12
 | 5=>13
 | 6=>17
 | 7=>19
 | 8=>21
 | _=>29
theorem offG_succ:∀k,k<9→offG (k+1)=offG k+cntG k
 | 0,_=>rfl
 | 1,_=>rfl
 | 2,_=>rfl
 | 3,_=>rfl
 | 4,_=>rfl
 | 5,_=>rfl
 | 6,_=>rfl
 | 7,_=>rfl
 | 8,_=>rfl
 | _+9,h=>absurd h (by omega)
theorem cntG_le:∀k,1≤cntG k∧cntG k≤8
 | 0=>by decide
 | 1=>by decide
 | 2=>by decide
 | 3=>by decide
 | 4=>by decide
 | 5=>by decide
 | 6=>by decide
 | 7=>by decide
 | _+8=>by show 1≤8∧8≤8;decide
theorem offG_le:∀k,k<9→offG k+cntG k≤29
 | 0,_=>by decide
 | 1,_=>by decide
 | 2,_=>by decide
 | 3,_=>by decide
 | 4,_=>by decide
 | 5,_=>by decide
 | 6,_=>by decide
 | 7,_=>by decide
 | 8,_=>by decide
 | _+9,h=>absurd h (by omega)
theorem gAt_size:∀k,(gAt k).size=81
 | 0=>rfl
 | 1=>rfl
 | 2=>rfl
 | 3=>rfl
 | 4=>rfl
 | 5=>rfl
 | 6=>rfl
 | 7=>rfl
 | _+8=>rfl
theorem gAt_ones:∀k,(gAt k).all (·.oneCell')=true
 | 0=>by kernel_rfl
 | 1=>by kernel_rfl
 | 2=>by kernel_rfl
 | 3=>by kernel_rfl
 | 4=>by kernel_rfl
 | 5=>by kernel_rfl
 | 6=>by kernel_rfl
 | 7=>by kernel_rfl
 | _+8=>by kernel_rfl
theorem gAt_cnt:∀k:Nat,(gAt k)[80]?=some (I (cntG k:Int))
 | 0=>rfl
 | 1=>rfl
 | 2=>rfl
 | 3=>rfl
 | 4=>rfl
 | 5=>rfl
 | 6=>rfl
 | 7=>rfl
 | _+8=>rfl
theorem allIx:∀k:Nat,k<9→∀w:World,(Instr.index 287 (.agg allG) (I (k:Int))).run Tryz.prog w=.ok (.agg (gAt k)) w
 | 0,_=>allIx0
 | 1,_=>allIx1
 | 2,_=>allIx2
 | 3,_=>allIx3
 | 4,_=>allIx4
 | 5,_=>allIx5
 | 6,_=>allIx6
 | 7,_=>allIx7
 | 8,_=>allIx8
 | _+9,h=>absurd h (by omega)
structure Am (gA:Array Value) (j:Nat) (s:Su):Prop where
 c0:gA[j*10]?=some (I s.e0)
 c1:gA[j*10+1]?=some (I s.e1)
 c2:gA[j*10+2]?=some (I s.e2)
 c3:gA[j*10+3]?=some (I s.e3)
 c4:gA[j*10+4]?=some (I s.e4)
 c5:gA[j*10+5]?=some (I s.e5)
 c6:gA[j*10+6]?=some (I s.e6)
 c7:gA[j*10+7]?=some (I s.e7)
 c8:gA[j*10+8]?=some (I s.n)
 c9:gA[j*10+9]?=some (I s.d)
theorem gAt_am:∀k j,k<9→j<cntG k→Am (gAt k) j (sut (offG k+j))
 | 0,0,_,_=>⟨rfl,rfl,rfl,rfl,rfl,rfl,rfl,rfl,rfl,rfl⟩
 | 0,1,_,_=>⟨rfl,rfl,rfl,rfl,rfl,rfl,rfl,rfl,rfl,rfl⟩
 | 0,_+2,_,h=>absurd h (by show ¬_<2;omega)
 | 1,0,_,_=>⟨rfl,rfl,rfl,rfl,rfl,rfl,rfl,rfl,rfl,rfl⟩
 | 1,_+1,_,h=>absurd h (by show ¬_<1;omega)
 | 2,0,_,_=>⟨rfl,rfl,rfl,rfl,rfl,rfl,rfl,rfl,rfl,rfl⟩
 | 2,_+1,_,h=>absurd h (by show ¬_<1;omega)
 | 3,0,_,_=>⟨rfl,rfl,rfl,rfl,rfl,rfl,rfl,rfl,rfl,rfl⟩
 | 3,1,_,_=>⟨rfl,rfl,rfl,rfl,rfl,rfl,rfl,rfl,rfl,rfl⟩
 | 3,2,_,_=>⟨rfl,rfl,rfl,rfl,rfl,rfl,rfl,rfl,rfl,rfl⟩
 | 3,3,_,_=>⟨rfl,rfl,rfl,rfl,rfl,rfl,rfl,rfl,rfl,rfl⟩
 | 3,4,_,_=>⟨rfl,rfl,rfl,rfl,rfl,rfl,rfl,rfl,rfl,rfl⟩
 | 3,5,_,_=>⟨rfl,rfl,rfl,rfl,rfl,rfl,rfl,rfl,rfl,rfl⟩
 | 3,6,_,_=>⟨rfl,rfl,rfl,rfl,rfl,rfl,rfl,rfl,rfl,rfl⟩
 | 3,7,_,_=>⟨rfl,rfl,rfl,rfl,rfl,rfl,rfl,rfl,rfl,rfl⟩
 | 3,_+8,_,h=>absurd h (by show ¬_<8;omega)
 | 4,0,_,_=>⟨rfl,rfl,rfl,rfl,rfl,rfl,rfl,rfl,rfl,rfl⟩
 | 4,_+1,_,h=>absurd h (by show ¬_<1;omega)
 | 5,0,_,_=>⟨rfl,rfl,rfl,rfl,rfl,rfl,rfl,rfl,rfl,rfl⟩
 | 5,1,_,_=>⟨rfl,rfl,rfl,rfl,rfl,rfl,rfl,rfl,rfl,rfl⟩
 | 5,2,_,_=>⟨rfl,rfl,rfl,rfl,rfl,rfl,rfl,rfl,rfl,rfl⟩
 | 5,3,_,_=>⟨rfl,rfl,rfl,rfl,rfl,rfl,rfl,rfl,rfl,rfl⟩
 | 5,_+4,_,h=>absurd h (by show ¬_<4;omega)
 | 6,0,_,_=>⟨rfl,rfl,rfl,rfl,rfl,rfl,rfl,rfl,rfl,rfl⟩
 | 6,1,_,_=>⟨rfl,rfl,rfl,rfl,rfl,rfl,rfl,rfl,rfl,rfl⟩
 | 6,_+2,_,h=>absurd h (by show ¬_<2;omega)
 | 7,0,_,_=>⟨rfl,rfl,rfl,rfl,rfl,rfl,rfl,rfl,rfl,rfl⟩
 | 7,1,_,_=>⟨rfl,rfl,rfl,rfl,rfl,rfl,rfl,rfl,rfl,rfl⟩
 | 7,_+2,_,h=>absurd h (by show ¬_<2;omega)
 | 8,0,_,_=>⟨rfl,rfl,rfl,rfl,rfl,rfl,rfl,rfl,rfl,rfl⟩
 | 8,1,_,_=>⟨rfl,rfl,rfl,rfl,rfl,rfl,rfl,rfl,rfl,rfl⟩
 | 8,2,_,_=>⟨rfl,rfl,rfl,rfl,rfl,rfl,rfl,rfl,rfl,rfl⟩
 | 8,3,_,_=>⟨rfl,rfl,rfl,rfl,rfl,rfl,rfl,rfl,rfl,rfl⟩
 | 8,4,_,_=>⟨rfl,rfl,rfl,rfl,rfl,rfl,rfl,rfl,rfl,rfl⟩
 | 8,5,_,_=>⟨rfl,rfl,rfl,rfl,rfl,rfl,rfl,rfl,rfl,rfl⟩
 | 8,6,_,_=>⟨rfl,rfl,rfl,rfl,rfl,rfl,rfl,rfl,rfl,rfl⟩
 | 8,7,_,_=>⟨rfl,rfl,rfl,rfl,rfl,rfl,rfl,rfl,rfl,rfl⟩
 | 8,_+8,_,h=>absurd h (by show ¬_<8;omega)
 | _+9,_,h,_=>absurd h (by omega)
structure Lb (n:Nat) (s:Su):Prop where
 c0:labs[n*3]?=some (.string s.nm)
 c1:labs[n*3+1]?=some (.string s.sy)
 c2:labs[n*3+2]?=some (I s.tk)
theorem labs_at:∀n,n<29→Lb n (sut n)
 | 0,_=>⟨rfl,rfl,rfl⟩
 | 1,_=>⟨rfl,rfl,rfl⟩
 | 2,_=>⟨rfl,rfl,rfl⟩
 | 3,_=>⟨rfl,rfl,rfl⟩
 | 4,_=>⟨rfl,rfl,rfl⟩
 | 5,_=>⟨rfl,rfl,rfl⟩
 | 6,_=>⟨rfl,rfl,rfl⟩
 | 7,_=>⟨rfl,rfl,rfl⟩
 | 8,_=>⟨rfl,rfl,rfl⟩
 | 9,_=>⟨rfl,rfl,rfl⟩
 | 10,_=>⟨rfl,rfl,rfl⟩
 | 11,_=>⟨rfl,rfl,rfl⟩
 | 12,_=>⟨rfl,rfl,rfl⟩
 | 13,_=>⟨rfl,rfl,rfl⟩
 | 14,_=>⟨rfl,rfl,rfl⟩
 | 15,_=>⟨rfl,rfl,rfl⟩
 | 16,_=>⟨rfl,rfl,rfl⟩
 | 17,_=>⟨rfl,rfl,rfl⟩
 | 18,_=>⟨rfl,rfl,rfl⟩
 | 19,_=>⟨rfl,rfl,rfl⟩
 | 20,_=>⟨rfl,rfl,rfl⟩
 | 21,_=>⟨rfl,rfl,rfl⟩
 | 22,_=>⟨rfl,rfl,rfl⟩
 | 23,_=>⟨rfl,rfl,rfl⟩
 | 24,_=>⟨rfl,rfl,rfl⟩
 | 25,_=>⟨rfl,rfl,rfl⟩
 | 26,_=>⟨rfl,rfl,rfl⟩
 | 27,_=>⟨rfl,rfl,rfl⟩
 | 28,_=>⟨rfl,rfl,rfl⟩
 | _+29,h=>absurd h (by omega)
end Go.Proofs.YtliadckofhblnaaGreatDoor

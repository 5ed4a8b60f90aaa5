/- TradFinds: what trad.Find answers is what the document says, whatever the text. -/
import Derived.Test.YtamoadanapmmeaaGreatDoorLimb3
import Derived.Test.YtamoadanapmmeaaGreatDoorEqU
namespace Go.Proofs.YtamoadanapmmeaaGreatDoor.Tr
open Go.RowKit
theorem FindT.shape {p:Nat→Bool} {v:Value} (h:FindT p v):∃(nm sy fn fd on od:ByteArray) (d0 d1 d2 d3 d4 d5 d6 d7 tk:Int) (ok:Bool),v=.tuple #[.agg #[.string nm,.string sy,I d0,I d1,I d2,I d3,I d4,I d5,I d6,I d7,.string fn,.string fd,.string on,.string od,I tk],.bool ok]:=by
 rcases h with ⟨k,hk,_,rfl⟩|⟨_,rfl⟩
 ·exact⟨_,_,_,_,_,_,_,_,_,_,_,_,_,_,_,_,rfl⟩
 ·exact⟨_,_,_,_,_,_,_,_,_,_,_,_,_,_,_,_,rfl⟩
theorem yard_first:IsF22 (trB ⟨#[121,97,114,100]⟩) (6:Nat):=Or.inl ⟨6,by decide,rfl,by decide +kernel,by decide +kernel⟩
theorem findT_yes (s:ByteArray) (k:Nat) (hk:k<22) (hf:IsF22 (trB s) (k:Int)) (w:World) (htab:Tab w):Calls Tryz.prog 14 #[.string s] w fun r w'=>r=.returned (.tuple #[.agg (rtT (trt k)),.bool true])∧Below w.heap.size w w':=by
 refine(findT s w htab).mono ?_
 rintro r w' ⟨v,rfl,hv,hb⟩
 rw[hv.det (Or.inl ⟨k,hk,hf,rfl⟩)]
 exact⟨rfl,hb⟩
theorem kel_found (w:World) (htab:Tab w):Calls Tryz.prog 14 #[.string ⟨#[121,97,114,100]⟩] w fun r w'=>r=.returned (.tuple #[.agg #[.string ⟨#[121,97,114,100]⟩,.string ⟨#[121,100]⟩,I 1,I 0,I 0,I 0,I 0,I 0,I 0,I 0,.string ⟨#[49,49,52,51]⟩,.string ⟨#[49,50,53,48]⟩,.string ⟨#[48]⟩,.string ⟨#[49]⟩,I 0],.bool true])∧Below w.heap.size w w':=findT_yes _ 6 (by decide) yard_first w htab
set_option maxRecDepth 100000 in
set_option maxHeartbeats 8000000 in
theorem law_finds (s:ByteArray) (w:World) (htab:Tab w):Calls Tryz.prog 4 #[.string s] w fun r w'=>r=.returned (.bool true)∧Below w.heap.size w w':=by
 have HTA:Hid (∀W,Below w.heap.size w W→Tab W):=fun W h=>htab.later h
 clear htab
 go_enter Tryz.func4,Tryz.ntmps4
 go_upto_region 2 with (go_at_call 14;go_must(refine(findT s _ (un HTA _ (Below.refl _ _))).mono ?_;rintro e W1 ⟨v,rfl,hv,hb⟩;obtain⟨nm,sy,fn,fd,on,od,d0,d1,d2,d3,d4,d5,d6,d7,tk,ok,rfl⟩:=hv.shape;have HFV:=hide hv;have HB1:=hide hb;clear hv hb))
 have HX:Hid (OwnU (W1.alloc (.cells #[.string nm,.string sy,I d0,I d1,I d2,I d3,I d4,I d5,I d6,I d7,.string fn,.string fd,.string on,.string od,I tk] 30)) W1.heap.size 30 #[.string nm,.string sy,I d0,I d1,I d2,I d3,I d4,I d5,I d6,I d7,.string fn,.string fd,.string on,.string od,I tk]∧Below W1.heap.size W1 (W1.alloc (.cells #[.string nm,.string sy,I d0,I d1,I d2,I d3,I d4,I d5,I d6,I d7,.string fn,.string fd,.string on,.string od,I tk] 30))):=⟨OwnU.new _ _ _,(Below.refl _ _).alloc (Nat.le_refl _) _⟩
 obtain⟨g3,hg3⟩:∃g3,g3=W1.heap.size:=⟨_,rfl⟩
 obtain⟨V2,hV2⟩:∃V2,V2=W1.alloc (.cells #[.string nm,.string sy,I d0,I d1,I d2,I d3,I d4,I d5,I d6,I d7,.string fn,.string fd,.string on,.string od,I tk] 30):=⟨_,rfl⟩
 rw[←hV2]at HX ⊢
 have HB2:=hide ((un HB1).trans ((un HX).2.mono (un HB1).size))
 have HA2:=hide (un HX).1
 rw[←hg3]at HA2 ⊢
 clear HX hg3 hV2 HB1
 go_upto_region 3 with (first
  | (go_at_call 13;go_must(refine(refUnitsT _).mono ?_;rintro e W0 ⟨W,rfl,rfl,hb⟩;have HUW:=hide (fun k hk=>uAllT_at W k hk);have HGW:Hid (W.heap.size<(W.alloc (.cells uAllT 30)).heap.size):=(by show _<_;simp);have HBW:Hid (Below V2.heap.size V2 (W.alloc (.cells uAllT 30))):=hb.alloc hb.size _;clear hb;obtain⟨gU,hgU⟩:∃gU,gU=W.heap.size:=⟨_,rfl⟩;obtain⟨V3,hV3⟩:∃V3,V3=W.alloc (.cells uAllT 30):=⟨_,rfl⟩;rw[←hV3,←hgU]at HUW HGW;rw[←hV3]at HBW;rw[←hV3,←hgU];clear hgU hV3))
  | (go_at_call 15;go_must(refine(refFindT s gU 22 V3 (un HUW) (un HGW)).mono ?_;rintro e W4 ⟨v',rfl,hv',hb⟩;obtain rfl:=(un HFV).det hv';have HB4:=hide (((un HB2).trans ((un HBW).mono (un HB2).size)).trans (hb.mono ((un HB2).trans ((un HBW).mono (un HB2).size)).size));have HA4:=hide (((un HA2).later (un HBW)).later hb);clear hb hv')))
 have HX:Hid (OwnU (W4.alloc (.cells #[.string nm,.string sy,I d0,I d1,I d2,I d3,I d4,I d5,I d6,I d7,.string fn,.string fd,.string on,.string od,I tk] 30)) W4.heap.size 30 #[.string nm,.string sy,I d0,I d1,I d2,I d3,I d4,I d5,I d6,I d7,.string fn,.string fd,.string on,.string od,I tk]∧Below W4.heap.size W4 (W4.alloc (.cells #[.string nm,.string sy,I d0,I d1,I d2,I d3,I d4,I d5,I d6,I d7,.string fn,.string fd,.string on,.string od,I tk] 30))):=⟨OwnU.new _ _ _,(Below.refl _ _).alloc (Nat.le_refl _) _⟩
 obtain⟨g5,hg5⟩:∃g5,g5=W4.heap.size:=⟨_,rfl⟩
 obtain⟨V5,hV5⟩:∃V5,V5=W4.alloc (.cells #[.string nm,.string sy,I d0,I d1,I d2,I d3,I d4,I d5,I d6,I d7,.string fn,.string fd,.string on,.string od,I tk] 30):=⟨_,rfl⟩
 rw[←hV5]at HX ⊢
 have HB5:=hide ((un HB4).trans ((un HX).2.mono (un HB4).size));have HA5:=hide ((un HA4).later (un HX).2)
 have HC5:=hide (un HX).1
 rw[←hg5]at HC5 ⊢
 clear HX hg5 hV5 HB4 HA4 HA2 HB2 HFV HUW HGW HBW
 go_upto_region 4 with (go_at_call 14;go_must(refine(kel_found _ (un HTA _ (un HB5))).mono ?_;rintro e W6 ⟨rfl,hb⟩;have HB6:=hide ((un HB5).trans (hb.mono (un HB5).size));have HA6:=hide ((un HA5).later hb);have HC6:=hide ((un HC5).later hb);clear hb HA5 HC5 HB5))
 have HX:Hid (Below W6.heap.size W6 (W6.alloc (.cells #[.string ⟨#[121,97,114,100]⟩,.string ⟨#[121,100]⟩,I 1,I 0,I 0,I 0,I 0,I 0,I 0,I 0,.string ⟨#[49,49,52,51]⟩,.string ⟨#[49,50,53,48]⟩,.string ⟨#[48]⟩,.string ⟨#[49]⟩,I 0] 30))):=(Below.refl _ _).alloc (Nat.le_refl _) _
 have HB7:=hide ((un HB6).trans ((un HX).mono (un HB6).size));have HA7:=hide ((un HA6).later (un HX));have HC7:=hide ((un HC6).later (un HX))
 clear HX HB6 HA6 HC6
 have j1:(W6.alloc (.cells #[.string ⟨#[121,97,114,100]⟩,.string ⟨#[121,100]⟩,I 1,I 0,I 0,I 0,I 0,I 0,I 0,I 0,.string ⟨#[49,49,52,51]⟩,.string ⟨#[49,50,53,48]⟩,.string ⟨#[48]⟩,.string ⟨#[49]⟩,I 0] 30)).cell? ⟨W6.heap.size,1,none⟩=some (.string ⟨#[121,100]⟩):=(OwnU.new _ _ _).ub.c 1 _ rfl
 generalize W6.alloc (.cells #[.string ⟨#[121,97,114,100]⟩,.string ⟨#[121,100]⟩,I 1,I 0,I 0,I 0,I 0,I 0,I 0,I 0,.string ⟨#[49,49,52,51]⟩,.string ⟨#[49,50,53,48]⟩,.string ⟨#[48]⟩,.string ⟨#[49]⟩,I 0] 30)=V7 at *
 generalize W6.heap.size=g7 at *
 have g30:V7.cell? ⟨g3,0,none⟩=some (.string nm):=(un HA7).ub.c 0 _ rfl;have g31:V7.cell? ⟨g3,1,none⟩=some (.string sy):=(un HA7).ub.c 1 _ rfl;have g32:V7.cell? ⟨g3,2,none⟩=some (I d0):=(un HA7).ub.c 2 _ rfl;have g33:V7.cell? ⟨g3,3,none⟩=some (I d1):=(un HA7).ub.c 3 _ rfl;have g34:V7.cell? ⟨g3,4,none⟩=some (I d2):=(un HA7).ub.c 4 _ rfl;have g35:V7.cell? ⟨g3,5,none⟩=some (I d3):=(un HA7).ub.c 5 _ rfl;have g36:V7.cell? ⟨g3,6,none⟩=some (I d4):=(un HA7).ub.c 6 _ rfl;have g37:V7.cell? ⟨g3,7,none⟩=some (I d5):=(un HA7).ub.c 7 _ rfl;have g38:V7.cell? ⟨g3,8,none⟩=some (I d6):=(un HA7).ub.c 8 _ rfl;have g39:V7.cell? ⟨g3,9,none⟩=some (I d7):=(un HA7).ub.c 9 _ rfl;have g310:V7.cell? ⟨g3,10,none⟩=some (.string fn):=(un HA7).ub.c 10 _ rfl;have g311:V7.cell? ⟨g3,11,none⟩=some (.string fd):=(un HA7).ub.c 11 _ rfl;have g312:V7.cell? ⟨g3,12,none⟩=some (.string on):=(un HA7).ub.c 12 _ rfl;have g313:V7.cell? ⟨g3,13,none⟩=some (.string od):=(un HA7).ub.c 13 _ rfl;have g314:V7.cell? ⟨g3,14,none⟩=some (I tk):=(un HA7).ub.c 14 _ rfl
 have g50:V7.cell? ⟨g5,0,none⟩=some (.string nm):=(un HC7).ub.c 0 _ rfl;have g51:V7.cell? ⟨g5,1,none⟩=some (.string sy):=(un HC7).ub.c 1 _ rfl;have g52:V7.cell? ⟨g5,2,none⟩=some (I d0):=(un HC7).ub.c 2 _ rfl;have g53:V7.cell? ⟨g5,3,none⟩=some (I d1):=(un HC7).ub.c 3 _ rfl;have g54:V7.cell? ⟨g5,4,none⟩=some (I d2):=(un HC7).ub.c 4 _ rfl;have g55:V7.cell? ⟨g5,5,none⟩=some (I d3):=(un HC7).ub.c 5 _ rfl;have g56:V7.cell? ⟨g5,6,none⟩=some (I d4):=(un HC7).ub.c 6 _ rfl;have g57:V7.cell? ⟨g5,7,none⟩=some (I d5):=(un HC7).ub.c 7 _ rfl;have g58:V7.cell? ⟨g5,8,none⟩=some (I d6):=(un HC7).ub.c 8 _ rfl;have g59:V7.cell? ⟨g5,9,none⟩=some (I d7):=(un HC7).ub.c 9 _ rfl;have g510:V7.cell? ⟨g5,10,none⟩=some (.string fn):=(un HC7).ub.c 10 _ rfl;have g511:V7.cell? ⟨g5,11,none⟩=some (.string fd):=(un HC7).ub.c 11 _ rfl;have g512:V7.cell? ⟨g5,12,none⟩=some (.string on):=(un HC7).ub.c 12 _ rfl;have g513:V7.cell? ⟨g5,13,none⟩=some (.string od):=(un HC7).ub.c 13 _ rfl;have g514:V7.cell? ⟨g5,14,none⟩=some (I tk):=(un HC7).ub.c 14 _ rfl
 have heq:=eqlU nm sy d0 d1 d2 d3 d4 d5 d6 d7 fn fd on od tk
 cases ok
 all_goals
  go_wp2_with fail
  go_ret
  exact⟨rfl,un HB7⟩
end Go.Proofs.YtamoadanapmmeaaGreatDoor.Tr

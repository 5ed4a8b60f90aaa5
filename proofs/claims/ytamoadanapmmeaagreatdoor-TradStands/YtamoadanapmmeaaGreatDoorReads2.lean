/- A region of which two operations are ready. -/
import Derived.Test.YtamoadanapmmeaaGreatDoorTr1
import Derived.Test.YtamoadanapmmeaaGreatDoorMade
import Derived.Test.YtamoadanapmmeaaGreatDoorLimb3
namespace Go.Proofs.YtamoadanapmmeaaGreatDoor.Tr
open Go.RowKit
set_option maxRecDepth 100000 in
set_option maxHeartbeats 4000000 in
theorem inch_made (w:World):Calls Tryz.prog 72 #[] w fun r w'=>r=.returned (.agg (aT 1 0 0 0 0 127 5000))∧Below w.heap.size w w':=by
  obtain ⟨V,hV⟩:∃ V,V=w.alloc (.cells z7 127):=⟨_,rfl⟩
  have H:Hid (RB w V):=by rw[hV];exact RB.new w
  have HV:=hide hV
  clear hV
  go_enter Tryz.func72,Tryz.ntmps72
  go_upto_region 1 with fail
  rw[← un HV]
  clear HV
  go_wp2_with fail
  refine (one0 _).mono ?_
  rintro e W ⟨rfl,hb⟩
  have H1:=hide ((un H).later hb)
  clear H hb
  have H:=H1
  clear H1
  go_wp2_with fail
  refine (mult_z 1 0 0 0 0 1 1 254 10000 127 5000 _ (by decide +kernel)).mono ?_
  rintro e W ⟨rfl,hb⟩
  have H1:=hide ((un H).later hb)
  clear H hb
  have H:=H1
  clear H1
  go_wp2_with (refine storeT 127 7 info127 rfl (.tmp 0) (.tmp 5) rfl w.heap.size z7 (aT 1 0 0 0 0 127 5000) rfl rfl rfl rfl (un H).o (by kernel_rfl) ?_)
  exact bodyPost_ret (v:=.agg (aT 1 0 0 0 0 127 5000)) (res127 Tryz.results72 _ _ w.heap.size _ rfl rfl ((un H).o.setRow _)) rfl ⟨rfl,below_setRow (un H).b (Nat.le_refl _) _⟩
set_option maxRecDepth 100000 in
set_option maxHeartbeats 4000000 in
theorem foot_made (w:World):Calls Tryz.prog 73 #[] w fun r w'=>r=.returned (.agg (aT 1 0 0 0 0 381 1250))∧Below w.heap.size w w':=by
  obtain ⟨V,hV⟩:∃ V,V=w.alloc (.cells z7 127):=⟨_,rfl⟩
  have H:Hid (RB w V):=by rw[hV];exact RB.new w
  have HV:=hide hV
  clear hV
  go_enter Tryz.func73,Tryz.ntmps73
  go_upto_region 1 with fail
  rw[← un HV]
  clear HV
  go_wp2_with fail
  refine (inch_made _).mono ?_
  rintro e W ⟨rfl,hb⟩
  have H1:=hide ((un H).later hb)
  clear H hb
  have H:=H1
  clear H1
  go_wp2_with fail
  refine (mult_z 1 0 0 0 0 127 5000 12 1 381 1250 _ (by decide +kernel)).mono ?_
  rintro e W ⟨rfl,hb⟩
  have H1:=hide ((un H).later hb)
  clear H hb
  have H:=H1
  clear H1
  go_wp2_with (refine storeT 127 7 info127 rfl (.tmp 0) (.tmp 5) rfl w.heap.size z7 (aT 1 0 0 0 0 381 1250) rfl rfl rfl rfl (un H).o (by kernel_rfl) ?_)
  exact bodyPost_ret (v:=.agg (aT 1 0 0 0 0 381 1250)) (res127 Tryz.results73 _ _ w.heap.size _ rfl rfl ((un H).o.setRow _)) rfl ⟨rfl,below_setRow (un H).b (Nat.le_refl _) _⟩
set_option maxRecDepth 100000 in
set_option maxHeartbeats 4000000 in
theorem fathom_made (w:World):Calls Tryz.prog 74 #[] w fun r w'=>r=.returned (.agg (aT 1 0 0 0 0 1143 625))∧Below w.heap.size w w':=by
  obtain ⟨V,hV⟩:∃ V,V=w.alloc (.cells z7 127):=⟨_,rfl⟩
  have H:Hid (RB w V):=by rw[hV];exact RB.new w
  have HV:=hide hV
  clear hV
  go_enter Tryz.func74,Tryz.ntmps74
  go_upto_region 1 with fail
  rw[← un HV]
  clear HV
  go_wp2_with fail
  refine (foot_made _).mono ?_
  rintro e W ⟨rfl,hb⟩
  have H1:=hide ((un H).later hb)
  clear H hb
  have H:=H1
  clear H1
  go_wp2_with fail
  refine (mult_z 1 0 0 0 0 381 1250 6 1 1143 625 _ (by decide +kernel)).mono ?_
  rintro e W ⟨rfl,hb⟩
  have H1:=hide ((un H).later hb)
  clear H hb
  have H:=H1
  clear H1
  go_wp2_with (refine storeT 127 7 info127 rfl (.tmp 0) (.tmp 5) rfl w.heap.size z7 (aT 1 0 0 0 0 1143 625) rfl rfl rfl rfl (un H).o (by kernel_rfl) ?_)
  exact bodyPost_ret (v:=.agg (aT 1 0 0 0 0 1143 625)) (res127 Tryz.results74 _ _ w.heap.size _ rfl rfl ((un H).o.setRow _)) rfl ⟨rfl,below_setRow (un H).b (Nat.le_refl _) _⟩
set_option maxRecDepth 100000 in
set_option maxHeartbeats 4000000 in
theorem hand_made (w:World):Calls Tryz.prog 75 #[] w fun r w'=>r=.returned (.agg (aT 1 0 0 0 0 127 1250))∧Below w.heap.size w w':=by
  obtain ⟨V,hV⟩:∃ V,V=w.alloc (.cells z7 127):=⟨_,rfl⟩
  have H:Hid (RB w V):=by rw[hV];exact RB.new w
  have HV:=hide hV
  clear hV
  go_enter Tryz.func75,Tryz.ntmps75
  go_upto_region 1 with fail
  rw[← un HV]
  clear HV
  go_wp2_with fail
  refine (inch_made _).mono ?_
  rintro e W ⟨rfl,hb⟩
  have H1:=hide ((un H).later hb)
  clear H hb
  have H:=H1
  clear H1
  go_wp2_with fail
  refine (mult_z 1 0 0 0 0 127 5000 4 1 127 1250 _ (by decide +kernel)).mono ?_
  rintro e W ⟨rfl,hb⟩
  have H1:=hide ((un H).later hb)
  clear H hb
  have H:=H1
  clear H1
  go_wp2_with (refine storeT 127 7 info127 rfl (.tmp 0) (.tmp 5) rfl w.heap.size z7 (aT 1 0 0 0 0 127 1250) rfl rfl rfl rfl (un H).o (by kernel_rfl) ?_)
  exact bodyPost_ret (v:=.agg (aT 1 0 0 0 0 127 1250)) (res127 Tryz.results75 _ _ w.heap.size _ rfl rfl ((un H).o.setRow _)) rfl ⟨rfl,below_setRow (un H).b (Nat.le_refl _) _⟩
set_option maxRecDepth 100000 in
set_option maxHeartbeats 4000000 in
theorem nautical_made (w:World):Calls Tryz.prog 76 #[] w fun r w'=>r=.returned (.agg (aT 1 0 0 0 0 1852 1))∧Below w.heap.size w w':=by
  obtain ⟨V,hV⟩:∃ V,V=w.alloc (.cells z7 127):=⟨_,rfl⟩
  have H:Hid (RB w V):=by rw[hV];exact RB.new w
  have HV:=hide hV
  clear hV
  go_enter Tryz.func76,Tryz.ntmps76
  go_upto_region 1 with fail
  rw[← un HV]
  clear HV
  go_wp2_with fail
  refine (one0 _).mono ?_
  rintro e W ⟨rfl,hb⟩
  have H1:=hide ((un H).later hb)
  clear H hb
  have H:=H1
  clear H1
  go_wp2_with fail
  refine (mult_z 1 0 0 0 0 1 1 1852 1 1852 1 _ (by decide +kernel)).mono ?_
  rintro e W ⟨rfl,hb⟩
  have H1:=hide ((un H).later hb)
  clear H hb
  have H:=H1
  clear H1
  go_wp2_with (refine storeT 127 7 info127 rfl (.tmp 0) (.tmp 5) rfl w.heap.size z7 (aT 1 0 0 0 0 1852 1) rfl rfl rfl rfl (un H).o (by kernel_rfl) ?_)
  exact bodyPost_ret (v:=.agg (aT 1 0 0 0 0 1852 1)) (res127 Tryz.results76 _ _ w.heap.size _ rfl rfl ((un H).o.setRow _)) rfl ⟨rfl,below_setRow (un H).b (Nat.le_refl _) _⟩
set_option maxRecDepth 100000 in
set_option maxHeartbeats 4000000 in
theorem knot_made (w:World):Calls Tryz.prog 77 #[] w fun r w'=>r=.returned (.agg (aT 1 0 (-1) 0 0 463 900))∧Below w.heap.size w w':=by
  obtain ⟨V,hV⟩:∃ V,V=w.alloc (.cells z7 127):=⟨_,rfl⟩
  have H:Hid (RB w V):=by rw[hV];exact RB.new w
  have HV:=hide hV
  clear hV
  go_enter Tryz.func77,Tryz.ntmps77
  go_upto_region 1 with fail
  rw[← un HV]
  clear HV
  go_wp2_with fail
  refine (one2 _).mono ?_
  rintro e W ⟨rfl,hb⟩
  have H1:=hide ((un H).later hb)
  clear H hb
  have H:=H1
  clear H1
  go_wp2_with fail
  refine (nautical_made _).mono ?_
  rintro e W ⟨rfl,hb⟩
  have H1:=hide ((un H).later hb)
  clear H hb
  have H:=H1
  clear H1
  go_wp2_with fail
  refine (mult_z 0 0 1 0 0 1 1 3600 1 3600 1 _ (by decide +kernel)).mono ?_
  rintro e W ⟨rfl,hb⟩
  have H1:=hide ((un H).later hb)
  clear H hb
  have H:=H1
  clear H1
  go_wp2_with fail
  refine (by_z 1 0 0 0 0 1852 1 0 0 1 0 0 3600 1 1 0 (-1) 0 0 463 900 _ (by decide +kernel)).mono ?_
  rintro e W ⟨rfl,hb⟩
  have H1:=hide ((un H).later hb)
  clear H hb
  have H:=H1
  clear H1
  go_wp2_with (refine storeT 127 7 info127 rfl (.tmp 0) (.tmp 7) rfl w.heap.size z7 (aT 1 0 (-1) 0 0 463 900) rfl rfl rfl rfl (un H).o (by kernel_rfl) ?_)
  exact bodyPost_ret (v:=.agg (aT 1 0 (-1) 0 0 463 900)) (res127 Tryz.results77 _ _ w.heap.size _ rfl rfl ((un H).o.setRow _)) rfl ⟨rfl,below_setRow (un H).b (Nat.le_refl _) _⟩
set_option maxRecDepth 100000 in
set_option maxHeartbeats 4000000 in
theorem yard_made (w:World):Calls Tryz.prog 78 #[] w fun r w'=>r=.returned (.agg (aT 1 0 0 0 0 1143 1250))∧Below w.heap.size w w':=by
  obtain ⟨V,hV⟩:∃ V,V=w.alloc (.cells z7 127):=⟨_,rfl⟩
  have H:Hid (RB w V):=by rw[hV];exact RB.new w
  have HV:=hide hV
  clear hV
  go_enter Tryz.func78,Tryz.ntmps78
  go_upto_region 1 with fail
  rw[← un HV]
  clear HV
  go_wp2_with fail
  refine (foot_made _).mono ?_
  rintro e W ⟨rfl,hb⟩
  have H1:=hide ((un H).later hb)
  clear H hb
  have H:=H1
  clear H1
  go_wp2_with fail
  refine (mult_z 1 0 0 0 0 381 1250 3 1 1143 1250 _ (by decide +kernel)).mono ?_
  rintro e W ⟨rfl,hb⟩
  have H1:=hide ((un H).later hb)
  clear H hb
  have H:=H1
  clear H1
  go_wp2_with (refine storeT 127 7 info127 rfl (.tmp 0) (.tmp 5) rfl w.heap.size z7 (aT 1 0 0 0 0 1143 1250) rfl rfl rfl rfl (un H).o (by kernel_rfl) ?_)
  exact bodyPost_ret (v:=.agg (aT 1 0 0 0 0 1143 1250)) (res127 Tryz.results78 _ _ w.heap.size _ rfl rfl ((un H).o.setRow _)) rfl ⟨rfl,below_setRow (un H).b (Nat.le_refl _) _⟩
set_option maxRecDepth 100000 in
set_option maxHeartbeats 4000000 in
theorem mile_made (w:World):Calls Tryz.prog 79 #[] w fun r w'=>r=.returned (.agg (aT 1 0 0 0 0 201168 125))∧Below w.heap.size w w':=by
  obtain ⟨V,hV⟩:∃ V,V=w.alloc (.cells z7 127):=⟨_,rfl⟩
  have H:Hid (RB w V):=by rw[hV];exact RB.new w
  have HV:=hide hV
  clear hV
  go_enter Tryz.func79,Tryz.ntmps79
  go_upto_region 1 with fail
  rw[← un HV]
  clear HV
  go_wp2_with fail
  refine (yard_made _).mono ?_
  rintro e W ⟨rfl,hb⟩
  have H1:=hide ((un H).later hb)
  clear H hb
  have H:=H1
  clear H1
  go_wp2_with fail
  refine (mult_z 1 0 0 0 0 1143 1250 1760 1 201168 125 _ (by decide +kernel)).mono ?_
  rintro e W ⟨rfl,hb⟩
  have H1:=hide ((un H).later hb)
  clear H hb
  have H:=H1
  clear H1
  go_wp2_with (refine storeT 127 7 info127 rfl (.tmp 0) (.tmp 5) rfl w.heap.size z7 (aT 1 0 0 0 0 201168 125) rfl rfl rfl rfl (un H).o (by kernel_rfl) ?_)
  exact bodyPost_ret (v:=.agg (aT 1 0 0 0 0 201168 125)) (res127 Tryz.results79 _ _ w.heap.size _ rfl rfl ((un H).o.setRow _)) rfl ⟨rfl,below_setRow (un H).b (Nat.le_refl _) _⟩
set_option maxRecDepth 100000 in
set_option maxHeartbeats 4000000 in
theorem atmosphere_made (w:World):Calls Tryz.prog 81 #[] w fun r w'=>r=.returned (.agg (aT 0 0 0 1 0 101325 1))∧Below w.heap.size w w':=by
  obtain ⟨V,hV⟩:∃ V,V=w.alloc (.cells z7 127):=⟨_,rfl⟩
  have H:Hid (RB w V):=by rw[hV];exact RB.new w
  have HV:=hide hV
  clear hV
  go_enter Tryz.func81,Tryz.ntmps81
  go_upto_region 1 with fail
  rw[← un HV]
  clear HV
  go_wp2_with fail
  refine (one3 _).mono ?_
  rintro e W ⟨rfl,hb⟩
  have H1:=hide ((un H).later hb)
  clear H hb
  have H:=H1
  clear H1
  go_wp2_with fail
  refine (mult_z 0 0 0 1 0 1 1 101325 1 101325 1 _ (by decide +kernel)).mono ?_
  rintro e W ⟨rfl,hb⟩
  have H1:=hide ((un H).later hb)
  clear H hb
  have H:=H1
  clear H1
  go_wp2_with (refine storeT 127 7 info127 rfl (.tmp 0) (.tmp 5) rfl w.heap.size z7 (aT 0 0 0 1 0 101325 1) rfl rfl rfl rfl (un H).o (by kernel_rfl) ?_)
  exact bodyPost_ret (v:=.agg (aT 0 0 0 1 0 101325 1)) (res127 Tryz.results81 _ _ w.heap.size _ rfl rfl ((un H).o.setRow _)) rfl ⟨rfl,below_setRow (un H).b (Nat.le_refl _) _⟩
set_option maxRecDepth 100000 in
set_option maxHeartbeats 4000000 in
theorem calorie_made (w:World):Calls Tryz.prog 82 #[] w fun r w'=>r=.returned (.agg (aT 0 0 0 0 1 523 125))∧Below w.heap.size w w':=by
  obtain ⟨V,hV⟩:∃ V,V=w.alloc (.cells z7 127):=⟨_,rfl⟩
  have H:Hid (RB w V):=by rw[hV];exact RB.new w
  have HV:=hide hV
  clear hV
  go_enter Tryz.func82,Tryz.ntmps82
  go_upto_region 1 with fail
  rw[← un HV]
  clear HV
  go_wp2_with fail
  refine (one4 _).mono ?_
  rintro e W ⟨rfl,hb⟩
  have H1:=hide ((un H).later hb)
  clear H hb
  have H:=H1
  clear H1
  go_wp2_with fail
  refine (mult_z 0 0 0 0 1 1 1 4184 1000 523 125 _ (by decide +kernel)).mono ?_
  rintro e W ⟨rfl,hb⟩
  have H1:=hide ((un H).later hb)
  clear H hb
  have H:=H1
  clear H1
  go_wp2_with (refine storeT 127 7 info127 rfl (.tmp 0) (.tmp 5) rfl w.heap.size z7 (aT 0 0 0 0 1 523 125) rfl rfl rfl rfl (un H).o (by kernel_rfl) ?_)
  exact bodyPost_ret (v:=.agg (aT 0 0 0 0 1 523 125)) (res127 Tryz.results82 _ _ w.heap.size _ rfl rfl ((un H).o.setRow _)) rfl ⟨rfl,below_setRow (un H).b (Nat.le_refl _) _⟩
set_option maxRecDepth 100000 in
set_option maxHeartbeats 4000000 in
theorem kilogram_made (w:World):Calls Tryz.prog 167 #[] w fun r w'=>r=.returned (.agg (aT 0 1 0 0 0 1000 1))∧Below w.heap.size w w':=by
  obtain ⟨V,hV⟩:∃ V,V=w.alloc (.cells z7 127):=⟨_,rfl⟩
  have H:Hid (RB w V):=by rw[hV];exact RB.new w
  have HV:=hide hV
  clear hV
  go_enter Tryz.func167,Tryz.ntmps167
  go_upto_region 1 with fail
  rw[← un HV]
  clear HV
  go_wp2_with fail
  refine (one1 _).mono ?_
  rintro e W ⟨rfl,hb⟩
  have H1:=hide ((un H).later hb)
  clear H hb
  have H:=H1
  clear H1
  go_wp2_with fail
  refine (mult_z 0 1 0 0 0 1 1 1000 1 1000 1 _ (by decide +kernel)).mono ?_
  rintro e W ⟨rfl,hb⟩
  have H1:=hide ((un H).later hb)
  clear H hb
  have H:=H1
  clear H1
  go_wp2_with (refine storeT 127 7 info127 rfl (.tmp 0) (.tmp 5) rfl w.heap.size z7 (aT 0 1 0 0 0 1000 1) rfl rfl rfl rfl (un H).o (by kernel_rfl) ?_)
  exact bodyPost_ret (v:=.agg (aT 0 1 0 0 0 1000 1)) (res127 Tryz.results167 _ _ w.heap.size _ rfl rfl ((un H).o.setRow _)) rfl ⟨rfl,below_setRow (un H).b (Nat.le_refl _) _⟩
set_option maxRecDepth 100000 in
set_option maxHeartbeats 4000000 in
theorem pound_made (w:World):Calls Tryz.prog 85 #[] w fun r w'=>r=.returned (.agg (aT 0 1 0 0 0 45359237 100000))∧Below w.heap.size w w':=by
  obtain ⟨V,hV⟩:∃ V,V=w.alloc (.cells z7 127):=⟨_,rfl⟩
  have H:Hid (RB w V):=by rw[hV];exact RB.new w
  have HV:=hide hV
  clear hV
  go_enter Tryz.func85,Tryz.ntmps85
  go_upto_region 1 with fail
  rw[← un HV]
  clear HV
  go_wp2_with fail
  refine (kilogram_made _).mono ?_
  rintro e W ⟨rfl,hb⟩
  have H1:=hide ((un H).later hb)
  clear H hb
  have H:=H1
  clear H1
  go_wp2_with fail
  refine (mult_z 0 1 0 0 0 1000 1 45359237 100000000 45359237 100000 _ (by decide +kernel)).mono ?_
  rintro e W ⟨rfl,hb⟩
  have H1:=hide ((un H).later hb)
  clear H hb
  have H:=H1
  clear H1
  go_wp2_with (refine storeT 127 7 info127 rfl (.tmp 0) (.tmp 5) rfl w.heap.size z7 (aT 0 1 0 0 0 45359237 100000) rfl rfl rfl rfl (un H).o (by kernel_rfl) ?_)
  exact bodyPost_ret (v:=.agg (aT 0 1 0 0 0 45359237 100000)) (res127 Tryz.results85 _ _ w.heap.size _ rfl rfl ((un H).o.setRow _)) rfl ⟨rfl,below_setRow (un H).b (Nat.le_refl _) _⟩
set_option maxRecDepth 100000 in
set_option maxHeartbeats 4000000 in
theorem grain_made (w:World):Calls Tryz.prog 86 #[] w fun r w'=>r=.returned (.agg (aT 0 1 0 0 0 6479891 100000000))∧Below w.heap.size w w':=by
  obtain ⟨V,hV⟩:∃ V,V=w.alloc (.cells z7 127):=⟨_,rfl⟩
  have H:Hid (RB w V):=by rw[hV];exact RB.new w
  have HV:=hide hV
  clear hV
  go_enter Tryz.func86,Tryz.ntmps86
  go_upto_region 1 with fail
  rw[← un HV]
  clear HV
  go_wp2_with fail
  refine (pound_made _).mono ?_
  rintro e W ⟨rfl,hb⟩
  have H1:=hide ((un H).later hb)
  clear H hb
  have H:=H1
  clear H1
  go_wp2_with fail
  refine (mult_z 0 1 0 0 0 45359237 100000 1 7000 6479891 100000000 _ (by decide +kernel)).mono ?_
  rintro e W ⟨rfl,hb⟩
  have H1:=hide ((un H).later hb)
  clear H hb
  have H:=H1
  clear H1
  go_wp2_with (refine storeT 127 7 info127 rfl (.tmp 0) (.tmp 5) rfl w.heap.size z7 (aT 0 1 0 0 0 6479891 100000000) rfl rfl rfl rfl (un H).o (by kernel_rfl) ?_)
  exact bodyPost_ret (v:=.agg (aT 0 1 0 0 0 6479891 100000000)) (res127 Tryz.results86 _ _ w.heap.size _ rfl rfl ((un H).o.setRow _)) rfl ⟨rfl,below_setRow (un H).b (Nat.le_refl _) _⟩
set_option maxRecDepth 100000 in
set_option maxHeartbeats 4000000 in
theorem ounce_made (w:World):Calls Tryz.prog 87 #[] w fun r w'=>r=.returned (.agg (aT 0 1 0 0 0 45359237 1600000))∧Below w.heap.size w w':=by
  obtain ⟨V,hV⟩:∃ V,V=w.alloc (.cells z7 127):=⟨_,rfl⟩
  have H:Hid (RB w V):=by rw[hV];exact RB.new w
  have HV:=hide hV
  clear hV
  go_enter Tryz.func87,Tryz.ntmps87
  go_upto_region 1 with fail
  rw[← un HV]
  clear HV
  go_wp2_with fail
  refine (pound_made _).mono ?_
  rintro e W ⟨rfl,hb⟩
  have H1:=hide ((un H).later hb)
  clear H hb
  have H:=H1
  clear H1
  go_wp2_with fail
  refine (mult_z 0 1 0 0 0 45359237 100000 1 16 45359237 1600000 _ (by decide +kernel)).mono ?_
  rintro e W ⟨rfl,hb⟩
  have H1:=hide ((un H).later hb)
  clear H hb
  have H:=H1
  clear H1
  go_wp2_with (refine storeT 127 7 info127 rfl (.tmp 0) (.tmp 5) rfl w.heap.size z7 (aT 0 1 0 0 0 45359237 1600000) rfl rfl rfl rfl (un H).o (by kernel_rfl) ?_)
  exact bodyPost_ret (v:=.agg (aT 0 1 0 0 0 45359237 1600000)) (res127 Tryz.results87 _ _ w.heap.size _ rfl rfl ((un H).o.setRow _)) rfl ⟨rfl,below_setRow (un H).b (Nat.le_refl _) _⟩
set_option maxRecDepth 100000 in
set_option maxHeartbeats 4000000 in
theorem stone_made (w:World):Calls Tryz.prog 91 #[] w fun r w'=>r=.returned (.agg (aT 0 1 0 0 0 317514659 50000))∧Below w.heap.size w w':=by
  obtain ⟨V,hV⟩:∃ V,V=w.alloc (.cells z7 127):=⟨_,rfl⟩
  have H:Hid (RB w V):=by rw[hV];exact RB.new w
  have HV:=hide hV
  clear hV
  go_enter Tryz.func91,Tryz.ntmps91
  go_upto_region 1 with fail
  rw[← un HV]
  clear HV
  go_wp2_with fail
  refine (pound_made _).mono ?_
  rintro e W ⟨rfl,hb⟩
  have H1:=hide ((un H).later hb)
  clear H hb
  have H:=H1
  clear H1
  go_wp2_with fail
  refine (mult_z 0 1 0 0 0 45359237 100000 14 1 317514659 50000 _ (by decide +kernel)).mono ?_
  rintro e W ⟨rfl,hb⟩
  have H1:=hide ((un H).later hb)
  clear H hb
  have H:=H1
  clear H1
  go_wp2_with (refine storeT 127 7 info127 rfl (.tmp 0) (.tmp 5) rfl w.heap.size z7 (aT 0 1 0 0 0 317514659 50000) rfl rfl rfl rfl (un H).o (by kernel_rfl) ?_)
  exact bodyPost_ret (v:=.agg (aT 0 1 0 0 0 317514659 50000)) (res127 Tryz.results91 _ _ w.heap.size _ rfl rfl ((un H).o.setRow _)) rfl ⟨rfl,below_setRow (un H).b (Nat.le_refl _) _⟩
set_option maxRecDepth 100000 in
set_option maxHeartbeats 4000000 in
theorem ton_made (w:World):Calls Tryz.prog 92 #[] w fun r w'=>r=.returned (.agg (aT 0 1 0 0 0 45359237 50))∧Below w.heap.size w w':=by
  obtain ⟨V,hV⟩:∃ V,V=w.alloc (.cells z7 127):=⟨_,rfl⟩
  have H:Hid (RB w V):=by rw[hV];exact RB.new w
  have HV:=hide hV
  clear hV
  go_enter Tryz.func92,Tryz.ntmps92
  go_upto_region 1 with fail
  rw[← un HV]
  clear HV
  go_wp2_with fail
  refine (pound_made _).mono ?_
  rintro e W ⟨rfl,hb⟩
  have H1:=hide ((un H).later hb)
  clear H hb
  have H:=H1
  clear H1
  go_wp2_with fail
  refine (mult_z 0 1 0 0 0 45359237 100000 2000 1 45359237 50 _ (by decide +kernel)).mono ?_
  rintro e W ⟨rfl,hb⟩
  have H1:=hide ((un H).later hb)
  clear H hb
  have H:=H1
  clear H1
  go_wp2_with (refine storeT 127 7 info127 rfl (.tmp 0) (.tmp 5) rfl w.heap.size z7 (aT 0 1 0 0 0 45359237 50) rfl rfl rfl rfl (un H).o (by kernel_rfl) ?_)
  exact bodyPost_ret (v:=.agg (aT 0 1 0 0 0 45359237 50)) (res127 Tryz.results92 _ _ w.heap.size _ rfl rfl ((un H).o.setRow _)) rfl ⟨rfl,below_setRow (un H).b (Nat.le_refl _) _⟩
set_option maxRecDepth 100000 in
set_option maxHeartbeats 4000000 in
theorem torr_made (w:World):Calls Tryz.prog 93 #[] w fun r w'=>r=.returned (.agg (aT 0 0 0 1 0 20265 152))∧Below w.heap.size w w':=by
  obtain ⟨V,hV⟩:∃ V,V=w.alloc (.cells z7 127):=⟨_,rfl⟩
  have H:Hid (RB w V):=by rw[hV];exact RB.new w
  have HV:=hide hV
  clear hV
  go_enter Tryz.func93,Tryz.ntmps93
  go_upto_region 1 with fail
  rw[← un HV]
  clear HV
  go_wp2_with fail
  refine (atmosphere_made _).mono ?_
  rintro e W ⟨rfl,hb⟩
  have H1:=hide ((un H).later hb)
  clear H hb
  have H:=H1
  clear H1
  go_wp2_with fail
  refine (mult_z 0 0 0 1 0 101325 1 1 760 20265 152 _ (by decide +kernel)).mono ?_
  rintro e W ⟨rfl,hb⟩
  have H1:=hide ((un H).later hb)
  clear H hb
  have H:=H1
  clear H1
  go_wp2_with (refine storeT 127 7 info127 rfl (.tmp 0) (.tmp 5) rfl w.heap.size z7 (aT 0 0 0 1 0 20265 152) rfl rfl rfl rfl (un H).o (by kernel_rfl) ?_)
  exact bodyPost_ret (v:=.agg (aT 0 0 0 1 0 20265 152)) (res127 Tryz.results93 _ _ w.heap.size _ rfl rfl ((un H).o.setRow _)) rfl ⟨rfl,below_setRow (un H).b (Nat.le_refl _) _⟩
set_option maxRecDepth 100000 in
set_option maxHeartbeats 4000000 in
theorem poundforce_made (w:World):Calls Tryz.prog 88 #[] w fun r w'=>r=.returned (.agg (aT 1 1 (-2) 0 0 8896443230521 2000000000))∧Below w.heap.size w w':=by
  obtain ⟨V,hV⟩:∃ V,V=w.alloc (.cells z7 127):=⟨_,rfl⟩
  have H:Hid (RB w V):=by rw[hV];exact RB.new w
  have HV:=hide hV
  clear hV
  go_enter Tryz.func88,Tryz.ntmps88
  go_upto_region 1 with fail
  rw[← un HV]
  clear HV
  go_wp2_with fail
  refine (pound_made _).mono ?_
  rintro e W ⟨rfl,hb⟩
  have H1:=hide ((un H).later hb)
  clear H hb
  have H:=H1
  clear H1
  go_wp2_with fail
  refine (one0 _).mono ?_
  rintro e W ⟨rfl,hb⟩
  have H1:=hide ((un H).later hb)
  clear H hb
  have H:=H1
  clear H1
  go_wp2_with fail
  refine (times_z 0 1 0 0 0 45359237 100000 1 0 0 0 0 1 1 1 1 0 0 0 45359237 100000 _ (by decide +kernel)).mono ?_
  rintro e W ⟨rfl,hb⟩
  have H1:=hide ((un H).later hb)
  clear H hb
  have H:=H1
  clear H1
  go_wp2_with fail
  refine (one2 _).mono ?_
  rintro e W ⟨rfl,hb⟩
  have H1:=hide ((un H).later hb)
  clear H hb
  have H:=H1
  clear H1
  go_wp2_with fail
  refine (by_z 1 1 0 0 0 45359237 100000 0 0 1 0 0 1 1 1 1 (-1) 0 0 45359237 100000 _ (by decide +kernel)).mono ?_
  rintro e W ⟨rfl,hb⟩
  have H1:=hide ((un H).later hb)
  clear H hb
  have H:=H1
  clear H1
  go_wp2_with fail
  refine (one2 _).mono ?_
  rintro e W ⟨rfl,hb⟩
  have H1:=hide ((un H).later hb)
  clear H hb
  have H:=H1
  clear H1
  go_wp2_with fail
  refine (by_z 1 1 (-1) 0 0 45359237 100000 0 0 1 0 0 1 1 1 1 (-2) 0 0 45359237 100000 _ (by decide +kernel)).mono ?_
  rintro e W ⟨rfl,hb⟩
  have H1:=hide ((un H).later hb)
  clear H hb
  have H:=H1
  clear H1
  go_wp2_with fail
  refine (mult_z 1 1 (-2) 0 0 45359237 100000 980665 100000 8896443230521 2000000000 _ (by decide +kernel)).mono ?_
  rintro e W ⟨rfl,hb⟩
  have H1:=hide ((un H).later hb)
  clear H hb
  have H:=H1
  clear H1
  go_wp2_with (refine storeT 127 7 info127 rfl (.tmp 0) (.tmp 11) rfl w.heap.size z7 (aT 1 1 (-2) 0 0 8896443230521 2000000000) rfl rfl rfl rfl (un H).o (by kernel_rfl) ?_)
  exact bodyPost_ret (v:=.agg (aT 1 1 (-2) 0 0 8896443230521 2000000000)) (res127 Tryz.results88 _ _ w.heap.size _ rfl rfl ((un H).o.setRow _)) rfl ⟨rfl,below_setRow (un H).b (Nat.le_refl _) _⟩
set_option maxRecDepth 100000 in
set_option maxHeartbeats 4000000 in
theorem horsepower_made (w:World):Calls Tryz.prog 89 #[] w fun r w'=>r=.returned (.agg (aT 2 1 (-3) 0 0 37284993579113511 50000000000))∧Below w.heap.size w w':=by
  obtain ⟨V,hV⟩:∃ V,V=w.alloc (.cells z7 127):=⟨_,rfl⟩
  have H:Hid (RB w V):=by rw[hV];exact RB.new w
  have HV:=hide hV
  clear hV
  go_enter Tryz.func89,Tryz.ntmps89
  go_upto_region 1 with fail
  rw[← un HV]
  clear HV
  go_wp2_with fail
  refine (foot_made _).mono ?_
  rintro e W ⟨rfl,hb⟩
  have H1:=hide ((un H).later hb)
  clear H hb
  have H:=H1
  clear H1
  go_wp2_with fail
  refine (poundforce_made _).mono ?_
  rintro e W ⟨rfl,hb⟩
  have H1:=hide ((un H).later hb)
  clear H hb
  have H:=H1
  clear H1
  go_wp2_with fail
  refine (times_z 1 0 0 0 0 381 1250 1 1 (-2) 0 0 8896443230521 2000000000 2 1 (-2) 0 0 3389544870828501 2500000000000 _ (by decide +kernel)).mono ?_
  rintro e W ⟨rfl,hb⟩
  have H1:=hide ((un H).later hb)
  clear H hb
  have H:=H1
  clear H1
  go_wp2_with fail
  refine (one2 _).mono ?_
  rintro e W ⟨rfl,hb⟩
  have H1:=hide ((un H).later hb)
  clear H hb
  have H:=H1
  clear H1
  go_wp2_with fail
  refine (by_z 2 1 (-2) 0 0 3389544870828501 2500000000000 0 0 1 0 0 1 1 2 1 (-3) 0 0 3389544870828501 2500000000000 _ (by decide +kernel)).mono ?_
  rintro e W ⟨rfl,hb⟩
  have H1:=hide ((un H).later hb)
  clear H hb
  have H:=H1
  clear H1
  go_wp2_with fail
  refine (mult_z 2 1 (-3) 0 0 3389544870828501 2500000000000 550 1 37284993579113511 50000000000 _ (by decide +kernel)).mono ?_
  rintro e W ⟨rfl,hb⟩
  have H1:=hide ((un H).later hb)
  clear H hb
  have H:=H1
  clear H1
  go_wp2_with (refine storeT 127 7 info127 rfl (.tmp 0) (.tmp 9) rfl w.heap.size z7 (aT 2 1 (-3) 0 0 37284993579113511 50000000000) rfl rfl rfl rfl (un H).o (by kernel_rfl) ?_)
  exact bodyPost_ret (v:=.agg (aT 2 1 (-3) 0 0 37284993579113511 50000000000)) (res127 Tryz.results89 _ _ w.heap.size _ rfl rfl ((un H).o.setRow _)) rfl ⟨rfl,below_setRow (un H).b (Nat.le_refl _) _⟩
end Go.Proofs.YtamoadanapmmeaaGreatDoor.Tr

namespace Go.Proofs.YtamoadanapmmeaaGreatDoor
open Go.RowKit
set_option maxRecDepth 100000 in
set_option maxHeartbeats 4000000 in
theorem gram_made (w:World):Calls Tryz.prog 223 #[] w fun r w'=>r=.returned (.agg #[I 0,I 1,I 0,I 0,I 0,I 0,I 0,I 0,I 1,I 1000])∧Below w.heap.size w w':=by
  obtain ⟨V,hV⟩:∃ V,V=w.alloc (.cells #[I 0,I 0,I 0,I 0,I 0,I 0,I 0,I 0,I 0,I 0] 235):=⟨_,rfl⟩
  have HR:Hid (OwnU V w.heap.size 235 #[I 0,I 0,I 0,I 0,I 0,I 0,I 0,I 0,I 0,I 0]):=by rw[hV];exact OwnU.new _ _ _
  have HB:Hid (Below w.heap.size w V):=by rw[hV];exact (Below.refl _ _).alloc (Nat.le_refl _) _
  have HV:=hide hV
  clear hV
  go_enter Tryz.func223,Tryz.ntmps223
  go_upto_region 1 with fail
  rw[← un HV]
  clear HV
  go_wp2_with fail
  refine (fixed_any 2 1 (-1) 0 0 0 0 0 _).mono ?_
  rintro e W ⟨rfl,hb⟩
  have HR1:=hide ((un HR).later hb);have HB1:=hide ((un HB).trans (hb.mono (un HB).size))
  clear HR HB hb
  have HR:=HR1;have HB:=HB1
  clear HR1 HB1
  go_wp2_with fail
  refine (second_made _).mono ?_
  rintro e W ⟨rfl,hb⟩
  have HR1:=hide ((un HR).later hb);have HB1:=hide ((un HB).trans (hb.mono (un HB).size))
  clear HR HB hb
  have HR:=HR1;have HB:=HB1
  clear HR1 HB1
  go_wp2_with fail
  refine (times_of 2 1 (-1) 0 0 0 0 0 1 1 0 0 1 0 0 0 0 0 1 1 2 1 0 0 0 0 0 0 1 1 _ (by decide +kernel) (by decide +kernel) (by decide +kernel)).mono ?_
  rintro e W ⟨rfl,hb⟩
  have HR1:=hide ((un HR).later hb);have HB1:=hide ((un HB).trans (hb.mono (un HB).size))
  clear HR HB hb
  have HR:=HR1;have HB:=HB1
  clear HR1 HB1
  go_wp2_with fail
  refine (metre_made _).mono ?_
  rintro e W ⟨rfl,hb⟩
  have HR1:=hide ((un HR).later hb);have HB1:=hide ((un HB).trans (hb.mono (un HB).size))
  clear HR HB hb
  have HR:=HR1;have HB:=HB1
  clear HR1 HB1
  go_wp2_with fail
  refine (by_of 2 1 0 0 0 0 0 0 1 1 1 0 0 0 0 0 0 0 1 1 1 1 0 0 0 0 0 0 1 1 _ (by decide +kernel) (by decide +kernel) (by decide +kernel)).mono ?_
  rintro e W ⟨rfl,hb⟩
  have HR1:=hide ((un HR).later hb);have HB1:=hide ((un HB).trans (hb.mono (un HB).size))
  clear HR HB hb
  have HR:=HR1;have HB:=HB1
  clear HR1 HB1
  go_wp2_with fail
  refine (metre_made _).mono ?_
  rintro e W ⟨rfl,hb⟩
  have HR1:=hide ((un HR).later hb);have HB1:=hide ((un HB).trans (hb.mono (un HB).size))
  clear HR HB hb
  have HR:=HR1;have HB:=HB1
  clear HR1 HB1
  go_wp2_with fail
  refine (by_of 1 1 0 0 0 0 0 0 1 1 1 0 0 0 0 0 0 0 1 1 0 1 0 0 0 0 0 0 1 1 _ (by decide +kernel) (by decide +kernel) (by decide +kernel)).mono ?_
  rintro e W ⟨rfl,hb⟩
  have HR1:=hide ((un HR).later hb);have HB1:=hide ((un HB).trans (hb.mono (un HB).size))
  clear HR HB hb
  have HR:=HR1;have HB:=HB1
  clear HR1 HB1
  go_upto_region 2 with fail
  have HX:Hid (OwnU (W.alloc (.cells #[I 0,I 1,I 0,I 0,I 0,I 0,I 0,I 0,I 1,I 1] 235)) W.heap.size 235 #[I 0,I 1,I 0,I 0,I 0,I 0,I 0,I 0,I 1,I 1]∧Below W.heap.size W (W.alloc (.cells #[I 0,I 1,I 0,I 0,I 0,I 0,I 0,I 0,I 1,I 1] 235))):=⟨OwnU.new _ _ _,(Below.refl _ _).alloc (Nat.le_refl _) _⟩
  obtain ⟨g1,hg1⟩:∃ g1,g1=W.heap.size:=⟨_,rfl⟩
  obtain ⟨U,hU⟩:∃ U,U=W.alloc (.cells #[I 0,I 1,I 0,I 0,I 0,I 0,I 0,I 0,I 1,I 1] 235):=⟨_,rfl⟩
  rw[← hU] at HX ⊢
  rw[← hg1] at HX ⊢
  have hne:¬ g1=w.heap.size:=by have:=(un HR).lt;omega
  have HR1:=hide ((un HR).later (by rw[← hg1];exact (un HX).2));have HB1:=hide ((un HB).trans (Below.mono (by rw[← hg1];exact (un HX).2:Below W.heap.size W U) (un HB).size))
  have HQ:=hide (un HX).1
  clear HX HR HB hU hg1
  have HBD:Hid (Below U.heap.size U U.drew):=(Below.refl _ _).drew
  have HSS:Hid (∀ W',OwnU W' g1 235 #[I 0,I 1,I 0,I 0,I 0,I 0,I 0,I 0,I 1,I 1]→W'.cell? ⟨g1,0,none⟩=some (I 0)∧W'.cell? ⟨g1,1,none⟩=some (I 1)∧W'.cell? ⟨g1,2,none⟩=some (I 0)∧W'.cell? ⟨g1,3,none⟩=some (I 0)∧W'.cell? ⟨g1,4,none⟩=some (I 0)∧W'.cell? ⟨g1,5,none⟩=some (I 0)∧W'.cell? ⟨g1,6,none⟩=some (I 0)∧W'.cell? ⟨g1,7,none⟩=some (I 0)∧W'.cell? ⟨g1,8,none⟩=some (I 1)∧W'.cell? ⟨g1,9,none⟩=some (I 1)):=fun W' h=>⟨h.ub.c 0 _ rfl,h.ub.c 1 _ rfl,h.ub.c 2 _ rfl,h.ub.c 3 _ rfl,h.ub.c 4 _ rfl,h.ub.c 5 _ rfl,h.ub.c 6 _ rfl,h.ub.c 7 _ rfl,h.ub.c 8 _ rfl,h.ub.c 9 _ rfl⟩
  have HR2:=hide ((un HR1).later (un HBD));have HQ2:=hide ((un HQ).later (un HBD));have HB2:=hide ((un HB1).trans ((un HBD).mono (un HB1).size))
  clear HR1 HQ HB1
  have HS0:=hide (un HSS _ (un HQ2))
  refine region_reads 3 (fun W'=>W'.cell? ⟨g1,0,none⟩=some (I 0)∧W'.cell? ⟨g1,1,none⟩=some (I 1)∧W'.cell? ⟨g1,2,none⟩=some (I 0)∧W'.cell? ⟨g1,3,none⟩=some (I 0)∧W'.cell? ⟨g1,4,none⟩=some (I 0)∧W'.cell? ⟨g1,5,none⟩=some (I 0)∧W'.cell? ⟨g1,6,none⟩=some (I 0)∧W'.cell? ⟨g1,7,none⟩=some (I 0)∧W'.cell? ⟨g1,8,none⟩=some (I 1)∧W'.cell? ⟨g1,9,none⟩=some (I 1)) (fun _=>True) 4 rfl (by kernel_rfl) ?_
  refine wpR_take (i:=0) (oi:=_) (v:=.agg #[I 0,I 1,I 0,I 0,I 0,I 0,I 0,I 0,I 1,I 1]) rfl (by kernel_rfl) (by kernel_rfl) (by kernel_rfl) (by kernel_rfl) (fun _ _ _ h=>h) (Or.inl ⟨by rfl,?_⟩) ⟨un HS0,trivial⟩ ?_
  · intro W' hW
    go_split_ands
    go_simp
  clear HBD HS0
  generalize U.drew=U0 at *
  refine wpR_op (i:=1) (o:=_) (by kernel_rfl) rfl rfl (fun K hK=>?_)
  go_simp
  refine (number_any 1000 _).mono ?_
  rintro e U1 ⟨rfl,hb⟩
  have HR3:=hide ((un HR2).later hb);have HQ3:=hide ((un HQ2).later hb);have HB3:=hide ((un HB2).trans (hb.mono (un HB2).size))
  clear hb HR2 HQ2 HB2
  refine hK _ _ ⟨un HSS _ (un HQ3),trivial⟩ ?_
  clear hK K
  refine wpR_op (i:=2) (o:=_) (by kernel_rfl) rfl rfl (fun K hK=>?_)
  go_simp
  refine (by_of 0 1 0 0 0 0 0 0 1 1 0 0 0 0 0 0 0 0 1000 1 0 1 0 0 0 0 0 0 1 1000 _ (by decide +kernel) (by decide +kernel) (by decide +kernel)).mono ?_
  rintro e U2 ⟨rfl,hb⟩
  have HR4:=hide ((un HR3).later hb);have HQ4:=hide ((un HQ3).later hb);have HB4:=hide ((un HB3).trans (hb.mono (un HB3).size))
  clear hb HR3 HQ3 HB3
  refine hK _ _ ⟨un HSS _ (un HQ4),trivial⟩ ?_
  clear hK K
  refine wpR_late (i:=3) (o:=_) (by kernel_rfl) rfl rfl (by kernel_rfl) (fun K hK=>?_)
  refine wp_store_row 235 (.tmp 0) (.tmp 12) rfl w.heap.size #[I 0,I 1,I 0,I 0,I 0,I 0,I 0,I 0,I 1,I 1000] rfl rfl 235 _ (un HR4) (by rw[info43];rfl) rfl (by kernel_rfl) (hK _ _ trivial ?_)
  clear hK K
  refine wpR_done (by kernel_rfl) ?_
  go_wp2_with fail
  exact bodyPost_ret (v:=.agg #[I 0,I 1,I 0,I 0,I 0,I 0,I 0,I 0,I 1,I 1000]) (res43 Tryz.results223 _ _ w.heap.size _ rfl rfl ((un HR4).setRow _)) rfl ⟨rfl,below_setRow (un HB4) (Nat.le_refl _) _⟩
end Go.Proofs.YtamoadanapmmeaaGreatDoor

namespace Go.Proofs.YtamoadanapmmeaaGreatDoor
section
variable {P:Program} {ops:Array Oper} {Q:Exit→Act→World→Prop} {md:Region.Mode} {S S7:World→Prop} {k:Nat}
theorem wpR_some {n:Nat} {l:Array Bool} {a:Act} {w:World} (rs:List Nat) (hr:Region.ready md ops l=rs) (hne:rs≠[])
    (h:∀ i∈rs,∃ o,ops[i]?=some o∧o.guard=none∧∀ K:Act→World→Prop,(∀ a' w',S w'∧S7 w'→wpR P md ops Q k S S7 n (l.setIfInBounds i true) a' w'→K a' w')→Oper.wp P o a w K Q):wpR P md ops Q k S S7 (n+1) l a w:=by
  refine ⟨fun h0=>absurd (hr.symm.trans h0) hne,fun j hj=>?_⟩
  rw[hr] at hj
  obtain ⟨o,ho,hg,hs⟩:=h j hj
  unfold wpOp
  simp only[ho]
  have hw:Region.wanted o (yielded ops a.tmps)=true:=by simp[Region.wanted,hg]
  rw[if_pos hw]
  exact Or.inl (hs _ fun a' w' h1 h2=>⟨⟨fun _=>h1.1,h1.2⟩,h2⟩)
theorem wpR_two {i j n:Nat} {oi oj:Oper} {l:Array Bool} {a:Act} {w:World} (hr:Region.ready md ops l=[i,j]) (hi:ops[i]?=some oi) (gi:oi.guard=none) (hj:ops[j]?=some oj) (gj:oj.guard=none)
    (si:∀ K:Act→World→Prop,(∀ a' w',S w'∧S7 w'→wpR P md ops Q k S S7 n (l.setIfInBounds i true) a' w'→K a' w')→Oper.wp P oi a w K Q)
    (sj:∀ K:Act→World→Prop,(∀ a' w',S w'∧S7 w'→wpR P md ops Q k S S7 n (l.setIfInBounds j true) a' w'→K a' w')→Oper.wp P oj a w K Q):wpR P md ops Q k S S7 (n+1) l a w:=by
  refine wpR_some [i,j] hr (by simp) fun q hq=>?_
  rcases List.mem_cons.1 hq with rfl|hq
  · exact ⟨oi,hi,gi,si⟩
  · obtain rfl:=List.mem_singleton.1 hq
    exact ⟨oj,hj,gj,sj⟩
end
end Go.Proofs.YtamoadanapmmeaaGreatDoor

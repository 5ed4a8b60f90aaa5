/- Fractions in lowest terms, plain: sums, opposites, orders; the one form of a rational number. -/
import Derived.Test.YtamoadanapmmeaaGreatDoorLimb3
import Derived.Test.YtamoadanapmmeaaGreatDoorReads2
import Derived.Test.YtamoadanapmmeaaGreatDoorJoule
import Derived.Test.YtamoadanapmmeaaGreatDoorLehmer
import Derived.BigQuiet
import Derived.Deep.Cut
import Derived.WalkSmall
namespace Go.Proofs.YtamoadanapmmeaaGreatDoor.Tr
open Go.RowKit
set_option maxRecDepth 100000 in
set_option maxHeartbeats 4000000 in
theorem acre_made (w:World):Calls Tryz.prog 80 #[] w fun r w'=>r=.returned (.agg (aT 2 0 0 0 0 316160658 78125))∧Below w.heap.size w w':=by
  obtain ⟨V,hV⟩:∃ V,V=w.alloc (.cells z7 127):=⟨_,rfl⟩
  have H:Hid (RB w V):=by rw[hV];exact RB.new w
  have HV:=hide hV
  clear hV
  go_enter Tryz.func80,Tryz.ntmps80
  go_upto_region 1 with fail
  rw[← un HV]
  clear HV
  go_wp2_with fail
  refine (foot_made _).mono ?_
  rintro e W ⟨rfl,hb⟩
  have H1:=hide ((un H).later hb)
  clear H hb
  have H:=H1
  clear H1
  go_upto_region 2 with (refine storeT 127 7 info127 rfl (.tmp 1) (.tmp 3) rfl W.heap.size z7 (aT 1 0 0 0 0 381 1250) rfl rfl rfl rfl (OwnU.new _ _ _) (by kernel_rfl) ?_)
  have hb1:Below W.heap.size W ((W.alloc (.cells z7 127)).setRow W.heap.size (aT 1 0 0 0 0 381 1250)):=below_setRow (albel _ _) (Nat.le_refl _) _
  have HX:Hid (OwnU ((W.alloc (.cells z7 127)).setRow W.heap.size (aT 1 0 0 0 0 381 1250)) W.heap.size 127 (aT 1 0 0 0 0 381 1250)):=(OwnU.new _ _ _).setRow _
  have H1:=hide ((un H).later hb1)
  have HN:Hid (¬ w.heap.size=W.heap.size):=(by have:=(un H).o.lt;show ¬ _;omega)
  clear H hb1
  have H:=H1
  clear H1
  generalize (W.alloc (.cells z7 127)).setRow W.heap.size (aT 1 0 0 0 0 381 1250)=U at *
  generalize W.heap.size=g1 at *
  go_wp2_with (refine wpList_load_row rfl 127 (.tmp 1) rfl g1 rfl 127 (aT 1 0 0 0 0 381 1250) (0,0) _ (un HX) Tryz.underlying127 rfl (by kernel_rfl) ?_)
  refine (times_z 1 0 0 0 0 381 1250 1 0 0 0 0 381 1250 2 0 0 0 0 145161 1562500 _ (by decide +kernel)).mono ?_
  rintro e W ⟨rfl,hb⟩
  have H1:=hide ((un H).later hb)
  clear H hb
  have H:=H1
  clear H1
  go_wp2_with fail
  refine (mult_z 2 0 0 0 0 145161 1562500 43560 1 316160658 78125 _ (by decide +kernel)).mono ?_
  rintro e W ⟨rfl,hb⟩
  have H1:=hide ((un H).later hb)
  clear H hb
  have H:=H1
  clear H1
  go_wp2_with (refine storeT 127 7 info127 rfl (.tmp 0) (.tmp 9) rfl w.heap.size z7 (aT 2 0 0 0 0 316160658 78125) rfl rfl rfl rfl (un H).o (by kernel_rfl) ?_)
  exact bodyPost_ret (v:=.agg (aT 2 0 0 0 0 316160658 78125)) (res127 Tryz.results80 _ _ w.heap.size _ rfl rfl ((un H).o.setRow _)) rfl ⟨rfl,below_setRow (un H).b (Nat.le_refl _) _⟩
set_option maxRecDepth 100000 in
set_option maxHeartbeats 4000000 in
theorem gallon_made (w:World):Calls Tryz.prog 83 #[] w fun r w'=>r=.returned (.agg (aT 3 0 0 0 0 473176473 125000000000))∧Below w.heap.size w w':=by
  obtain ⟨V,hV⟩:∃ V,V=w.alloc (.cells z7 127):=⟨_,rfl⟩
  have H:Hid (RB w V):=by rw[hV];exact RB.new w
  have HV:=hide hV
  clear hV
  go_enter Tryz.func83,Tryz.ntmps83
  go_upto_region 1 with fail
  rw[← un HV]
  clear HV
  go_wp2_with fail
  refine (inch_made _).mono ?_
  rintro e W ⟨rfl,hb⟩
  have H1:=hide ((un H).later hb)
  clear H hb
  have H:=H1
  clear H1
  go_upto_region 2 with (refine storeT 127 7 info127 rfl (.tmp 1) (.tmp 3) rfl W.heap.size z7 (aT 1 0 0 0 0 127 5000) rfl rfl rfl rfl (OwnU.new _ _ _) (by kernel_rfl) ?_)
  have hb1:Below W.heap.size W ((W.alloc (.cells z7 127)).setRow W.heap.size (aT 1 0 0 0 0 127 5000)):=below_setRow (albel _ _) (Nat.le_refl _) _
  have HX:Hid (OwnU ((W.alloc (.cells z7 127)).setRow W.heap.size (aT 1 0 0 0 0 127 5000)) W.heap.size 127 (aT 1 0 0 0 0 127 5000)):=(OwnU.new _ _ _).setRow _
  have H1:=hide ((un H).later hb1)
  have HN:Hid (¬ w.heap.size=W.heap.size):=(by have:=(un H).o.lt;show ¬ _;omega)
  clear H hb1
  have H:=H1
  clear H1
  generalize (W.alloc (.cells z7 127)).setRow W.heap.size (aT 1 0 0 0 0 127 5000)=U at *
  generalize W.heap.size=g1 at *
  have HX1:Hid (OwnU U.drew g1 127 (aT 1 0 0 0 0 127 5000)):=un HX
  have H1:Hid (RB w U.drew):=⟨(un H).o,(un H).b.drew⟩
  have HSS:Hid (∀ W':World,OwnU W' g1 127 (aT 1 0 0 0 0 127 5000)→W'.cell? ⟨g1,0,none⟩=some (I 1)∧W'.cell? ⟨g1,1,none⟩=some (I 0)∧W'.cell? ⟨g1,2,none⟩=some (I 0)∧W'.cell? ⟨g1,3,none⟩=some (I 0)∧W'.cell? ⟨g1,4,none⟩=some (I 0)∧W'.cell? ⟨g1,5,none⟩=some (I 127)∧W'.cell? ⟨g1,6,none⟩=some (I 5000)):=fun W' h1=>⟨h1.ub.c 0 _ rfl,h1.ub.c 1 _ rfl,h1.ub.c 2 _ rfl,h1.ub.c 3 _ rfl,h1.ub.c 4 _ rfl,h1.ub.c 5 _ rfl,h1.ub.c 6 _ rfl⟩
  have HS0:=hide (un HSS _ (un HX1))
  clear HX H
  have HX:=HX1;have H:=H1
  clear HX1 H1
  refine region_reads 6 (fun _=>True) (fun W'=>W'.cell? ⟨g1,0,none⟩=some (I 1)∧W'.cell? ⟨g1,1,none⟩=some (I 0)∧W'.cell? ⟨g1,2,none⟩=some (I 0)∧W'.cell? ⟨g1,3,none⟩=some (I 0)∧W'.cell? ⟨g1,4,none⟩=some (I 0)∧W'.cell? ⟨g1,5,none⟩=some (I 127)∧W'.cell? ⟨g1,6,none⟩=some (I 5000)) 7 rfl (by kernel_rfl) ?_
  generalize U.drew=U1 at *
  refine wpR_take7 (i:=0) (oi:=_) (v:=.agg (aT 1 0 0 0 0 127 5000)) rfl (by kernel_rfl) (by kernel_rfl) (by kernel_rfl) (by kernel_rfl) (fun _ _ _ h=>h) (Or.inl ⟨by rfl,?_⟩) ⟨trivial,un HS0⟩ ?_
  · intro W' hW
    go_split_ands
    go_simp
  refine wpR_take7 (i:=1) (oi:=_) (v:=.agg (aT 1 0 0 0 0 127 5000)) rfl (by kernel_rfl) (by kernel_rfl) (by kernel_rfl) (by kernel_rfl) (fun _ _ _ h=>h) (Or.inl ⟨by rfl,?_⟩) ⟨trivial,un HS0⟩ ?_
  · intro W' hW
    go_split_ands
    go_simp
  refine wpR_take7 (i:=3) (oi:=_) (v:=.agg (aT 1 0 0 0 0 127 5000)) rfl (by kernel_rfl) (by kernel_rfl) (by kernel_rfl) (by kernel_rfl) (fun _ _ _ h=>h) (Or.inl ⟨by rfl,?_⟩) ⟨trivial,un HS0⟩ ?_
  · intro W' hW
    go_split_ands
    go_simp
  refine wpR_op (i:=2) (o:=_) (by kernel_rfl) rfl rfl (fun K hK=>?_)
  go_simp
  refine (times_z 1 0 0 0 0 127 5000 1 0 0 0 0 127 5000 2 0 0 0 0 16129 25000000 _ (by decide +kernel)).mono ?_
  rintro e U4 ⟨rfl,hb⟩
  have HX1:=hide ((un HX).later hb);have H1:=hide ((un H).later hb)
  clear hb HX H
  have HX:=HX1;have H:=H1
  clear HX1 H1
  refine hK _ _ ⟨trivial,un HSS _ (un HX)⟩ ?_
  clear hK K
  refine wpR_op (i:=4) (o:=_) (by kernel_rfl) rfl rfl (fun K hK=>?_)
  go_simp
  refine (times_z 2 0 0 0 0 16129 25000000 1 0 0 0 0 127 5000 3 0 0 0 0 2048383 125000000000 _ (by decide +kernel)).mono ?_
  rintro e U4 ⟨rfl,hb⟩
  have HX1:=hide ((un HX).later hb);have H1:=hide ((un H).later hb)
  clear hb HX H
  have HX:=HX1;have H:=H1
  clear HX1 H1
  refine hK _ _ ⟨trivial,un HSS _ (un HX)⟩ ?_
  clear hK K
  refine wpR_op (i:=5) (o:=_) (by kernel_rfl) rfl rfl (fun K hK=>?_)
  go_simp
  refine hK _ _ ⟨trivial,un HSS _ (un HX)⟩ ?_
  clear hK K
  refine wpR_late (i:=6) (o:=_) (by kernel_rfl) rfl rfl (by kernel_rfl) (fun K hK=>?_)
  go_simp
  refine hK _ _ (un HSS _ (un HX)) ?_
  clear hK K
  refine wpR_done (by kernel_rfl) ?_
  go_wp2_with fail
  refine (mult_z 3 0 0 0 0 2048383 125000000000 231 1 473176473 125000000000 _ (by decide +kernel)).mono ?_
  rintro e W ⟨rfl,hb⟩
  have H1:=hide ((un H).later hb)
  clear H hb
  have H:=H1
  clear H1
  go_wp2_with (refine storeT 127 7 info127 rfl (.tmp 0) (.tmp 11) rfl w.heap.size z7 (aT 3 0 0 0 0 473176473 125000000000) rfl rfl rfl rfl (un H).o (by kernel_rfl) ?_)
  exact bodyPost_ret (v:=.agg (aT 3 0 0 0 0 473176473 125000000000)) (res127 Tryz.results83 _ _ w.heap.size _ rfl rfl ((un H).o.setRow _)) rfl ⟨rfl,below_setRow (un H).b (Nat.le_refl _) _⟩
set_option maxRecDepth 100000 in
set_option maxHeartbeats 4000000 in
theorem pint_made (w:World):Calls Tryz.prog 84 #[] w fun r w'=>r=.returned (.agg (aT 3 0 0 0 0 473176473 1000000000000))∧Below w.heap.size w w':=by
  obtain ⟨V,hV⟩:∃ V,V=w.alloc (.cells z7 127):=⟨_,rfl⟩
  have H:Hid (RB w V):=by rw[hV];exact RB.new w
  have HV:=hide hV
  clear hV
  go_enter Tryz.func84,Tryz.ntmps84
  go_upto_region 1 with fail
  rw[← un HV]
  clear HV
  go_wp2_with fail
  refine (gallon_made _).mono ?_
  rintro e W ⟨rfl,hb⟩
  have H1:=hide ((un H).later hb)
  clear H hb
  have H:=H1
  clear H1
  go_wp2_with fail
  refine (mult_z 3 0 0 0 0 473176473 125000000000 1 8 473176473 1000000000000 _ (by decide +kernel)).mono ?_
  rintro e W ⟨rfl,hb⟩
  have H1:=hide ((un H).later hb)
  clear H hb
  have H:=H1
  clear H1
  go_wp2_with (refine storeT 127 7 info127 rfl (.tmp 0) (.tmp 5) rfl w.heap.size z7 (aT 3 0 0 0 0 473176473 1000000000000) rfl rfl rfl rfl (un H).o (by kernel_rfl) ?_)
  exact bodyPost_ret (v:=.agg (aT 3 0 0 0 0 473176473 1000000000000)) (res127 Tryz.results84 _ _ w.heap.size _ rfl rfl ((un H).o.setRow _)) rfl ⟨rfl,below_setRow (un H).b (Nat.le_refl _) _⟩
set_option maxRecDepth 100000 in
set_option maxHeartbeats 4000000 in
theorem psi_made (w:World):Calls Tryz.prog 90 #[] w fun r w'=>r=.returned (.agg (aT (-1) 1 (-2) 0 0 8896443230521 1290320))∧Below w.heap.size w w':=by
  obtain ⟨V,hV⟩:∃ V,V=w.alloc (.cells z7 127):=⟨_,rfl⟩
  have H:Hid (RB w V):=by rw[hV];exact RB.new w
  have HV:=hide hV
  clear hV
  go_enter Tryz.func90,Tryz.ntmps90
  go_upto_region 1 with fail
  rw[← un HV]
  clear HV
  go_wp2_with fail
  refine (inch_made _).mono ?_
  rintro e W ⟨rfl,hb⟩
  have H1:=hide ((un H).later hb)
  clear H hb
  have H:=H1
  clear H1
  go_upto_region 2 with (refine storeT 127 7 info127 rfl (.tmp 1) (.tmp 2) rfl W.heap.size z7 (aT 1 0 0 0 0 127 5000) rfl rfl rfl rfl (OwnU.new _ _ _) (by kernel_rfl) ?_)
  have hb1:Below W.heap.size W ((W.alloc (.cells z7 127)).setRow W.heap.size (aT 1 0 0 0 0 127 5000)):=below_setRow (albel _ _) (Nat.le_refl _) _
  have HX:Hid (OwnU ((W.alloc (.cells z7 127)).setRow W.heap.size (aT 1 0 0 0 0 127 5000)) W.heap.size 127 (aT 1 0 0 0 0 127 5000)):=(OwnU.new _ _ _).setRow _
  have H1:=hide ((un H).later hb1)
  have HN:Hid (¬ w.heap.size=W.heap.size):=(by have:=(un H).o.lt;show ¬ _;omega)
  clear H hb1
  have H:=H1
  clear H1
  generalize (W.alloc (.cells z7 127)).setRow W.heap.size (aT 1 0 0 0 0 127 5000)=U at *
  generalize W.heap.size=g1 at *
  have HX1:Hid (OwnU U.drew g1 127 (aT 1 0 0 0 0 127 5000)):=un HX
  have H1:Hid (RB w U.drew):=⟨(un H).o,(un H).b.drew⟩
  have HSS:Hid (∀ W':World,OwnU W' g1 127 (aT 1 0 0 0 0 127 5000)→W'.cell? ⟨g1,0,none⟩=some (I 1)∧W'.cell? ⟨g1,1,none⟩=some (I 0)∧W'.cell? ⟨g1,2,none⟩=some (I 0)∧W'.cell? ⟨g1,3,none⟩=some (I 0)∧W'.cell? ⟨g1,4,none⟩=some (I 0)∧W'.cell? ⟨g1,5,none⟩=some (I 127)∧W'.cell? ⟨g1,6,none⟩=some (I 5000)):=fun W' h1=>⟨h1.ub.c 0 _ rfl,h1.ub.c 1 _ rfl,h1.ub.c 2 _ rfl,h1.ub.c 3 _ rfl,h1.ub.c 4 _ rfl,h1.ub.c 5 _ rfl,h1.ub.c 6 _ rfl⟩
  have HS0:=hide (un HSS _ (un HX1))
  clear HX H
  have HX:=HX1;have H:=H1
  clear HX1 H1
  refine region_reads 5 (fun _=>True) (fun W'=>W'.cell? ⟨g1,0,none⟩=some (I 1)∧W'.cell? ⟨g1,1,none⟩=some (I 0)∧W'.cell? ⟨g1,2,none⟩=some (I 0)∧W'.cell? ⟨g1,3,none⟩=some (I 0)∧W'.cell? ⟨g1,4,none⟩=some (I 0)∧W'.cell? ⟨g1,5,none⟩=some (I 127)∧W'.cell? ⟨g1,6,none⟩=some (I 5000)) 6 rfl (by kernel_rfl) ?_
  generalize U.drew=U1 at *
  refine wpR_take7 (i:=1) (oi:=_) (v:=.agg (aT 1 0 0 0 0 127 5000)) rfl (by kernel_rfl) (by kernel_rfl) (by kernel_rfl) (by kernel_rfl) (fun _ _ _ h=>h) (Or.inl ⟨by rfl,?_⟩) ⟨trivial,un HS0⟩ ?_
  · intro W' hW
    go_split_ands
    go_simp
  refine wpR_take7 (i:=2) (oi:=_) (v:=.agg (aT 1 0 0 0 0 127 5000)) rfl (by kernel_rfl) (by kernel_rfl) (by kernel_rfl) (by kernel_rfl) (fun _ _ _ h=>h) (Or.inl ⟨by rfl,?_⟩) ⟨trivial,un HS0⟩ ?_
  · intro W' hW
    go_split_ands
    go_simp
  refine wpR_op (i:=0) (o:=_) (by kernel_rfl) rfl rfl (fun K hK=>?_)
  go_simp
  refine (poundforce_made _).mono ?_
  rintro e U4 ⟨rfl,hb⟩
  have HX1:=hide ((un HX).later hb);have H1:=hide ((un H).later hb)
  clear hb HX H
  have HX:=HX1;have H:=H1
  clear HX1 H1
  refine hK _ _ ⟨trivial,un HSS _ (un HX)⟩ ?_
  clear hK K
  refine wpR_op (i:=3) (o:=_) (by kernel_rfl) rfl rfl (fun K hK=>?_)
  go_simp
  refine (times_z 1 0 0 0 0 127 5000 1 0 0 0 0 127 5000 2 0 0 0 0 16129 25000000 _ (by decide +kernel)).mono ?_
  rintro e U4 ⟨rfl,hb⟩
  have HX1:=hide ((un HX).later hb);have H1:=hide ((un H).later hb)
  clear hb HX H
  have HX:=HX1;have H:=H1
  clear HX1 H1
  refine hK _ _ ⟨trivial,un HSS _ (un HX)⟩ ?_
  clear hK K
  refine wpR_op (i:=4) (o:=_) (by kernel_rfl) rfl rfl (fun K hK=>?_)
  go_simp
  refine (by_z 1 1 (-2) 0 0 8896443230521 2000000000 2 0 0 0 0 16129 25000000 (-1) 1 (-2) 0 0 8896443230521 1290320 _ (by decide +kernel)).mono ?_
  rintro e U4 ⟨rfl,hb⟩
  have HX1:=hide ((un HX).later hb);have H1:=hide ((un H).later hb)
  clear hb HX H
  have HX:=HX1;have H:=H1
  clear HX1 H1
  refine hK _ _ ⟨trivial,un HSS _ (un HX)⟩ ?_
  clear hK K
  have HX2:=hide ((un HX).otherRow (us:=aT (-1) 1 (-2) 0 0 8896443230521 1290320) (un HN))
  refine wpR_late (i:=5) (o:=_) (by kernel_rfl) rfl rfl (by kernel_rfl) (fun K hK=>?_)
  refine wp_store_row 127 (.tmp 0) (.tmp 7) rfl w.heap.size (aT (-1) 1 (-2) 0 0 8896443230521 1290320) (by kernel_rfl) (by kernel_rfl) 127 _ (un H).o (by rw[info127];rfl) rfl (by kernel_rfl) (hK _ _ (un HSS _ (un HX2)) ?_)
  clear hK K
  refine wpR_done (by kernel_rfl) ?_
  go_wp2_with fail
  exact bodyPost_ret (v:=.agg (aT (-1) 1 (-2) 0 0 8896443230521 1290320)) (res127 Tryz.results90 _ _ w.heap.size _ rfl rfl ((un H).o.setRow _)) rfl ⟨rfl,below_setRow (un H).b (Nat.le_refl _) _⟩
end Go.Proofs.YtamoadanapmmeaaGreatDoor.Tr

namespace Go.Proofs.YtamoadanapmmeaaGreatDoor
open Go.RowKit
theorem one_list {l:List Nat} (hn:Cub.normal 1000000000 l):Cub.lval 1000000000 l=1↔l=[1]:=by
  constructor
  · intro h
    match l,hn,h with
    | [],_,h=>simp[Cub.lval] at h
    | [x],_,h=>simp[Cub.lval] at h;rw[h]
    | x :: y :: t,hn,h=>
      have:=Cub.normal_ge hn (by simp)
      have h2:(1000000000:Nat) ^ 1≤1000000000 ^ ((x :: y :: t).length - 1):=Nat.pow_le_pow_right (by decide) (by simp)
      omega
  · rintro rfl;rfl
theorem isOne_any (v:Value) (n:Nat) (w:World) (h:IsBig w v n) :
    Calls Tryz.prog 188 #[v] w fun e w'=>e=.returned (.bool (n == 1))∧Below w.heap.size w w':=by
  obtain ⟨a,l,cap,rfl,hl,hr,hn,rfl⟩:=h.form
  have h1:=one_list hn
  by_cases hlen:l.length=1
  · match l,hlen with
    | [x],_=>
      obtain ⟨a',cap',e,_,_,hc⟩:=hr
      simp only[Value.slice.injEq] at e
      obtain ⟨rfl,_,rfl⟩:=e
      obtain ⟨b,o,rfl,hb,hcell⟩:=hc (by simp)
      have c0:=hcell 0 (by simp)
      simp only[List.getElem_cons_zero,Nat.add_zero] at c0
      have ex:(Cub.lval 1000000000 [x] == 1)=((x:Int) == 1):=by
        simp[Cub.lval]
        rw[Bool.eq_iff_iff];simp;omega
      have hx:x<18446744073709551616:=by have:=hn.1 x (by simp);omega
      rw[ex]
      simp only[List.length_cons,List.length_nil,Nat.zero_add] at *
      clear ex h1 hn h hcell hc
      go_enter Tryz.func188,Tryz.ntmps188
      go_wp2
      go_ret
      exact ⟨rfl,(Below.refl _ _).alloc (Nat.le_refl _) _⟩
  · have ex:(Cub.lval 1000000000 l == 1)=false:=by
      rw[beq_eq_false_iff_ne];intro e;exact hlen (by rw[h1.1 e];rfl)
    have el:((l.length:Int) == 1)=false:=by rw[beq_eq_false_iff_ne];omega
    rw[ex]
    clear ex h1 hn h hr
    generalize l.length=len at *
    go_enter Tryz.func188,Tryz.ntmps188
    go_wp2
    go_ret
    exact ⟨rfl,(Below.refl _ _).alloc (Nat.le_refl _) _⟩
structure Box (W:World) (g:Nat) (u:Value):Prop where
  c:W.cell? ⟨g,0,none⟩=some u
  f:W.frozen? ⟨g,0,none⟩=false
theorem Box.lt {W:World} {g:Nat} {u:Value} (h:Box W g u):g<W.heap.size:=World.block_lt_of_cell? _ _ h.c
theorem Box.later {W V:World} {g:Nat} {u:Value} (h:Box W g u) (hb:Below W.heap.size W V):Box V g u :=
  ⟨(hb.cell (p:=⟨g,0,none⟩) h.lt).trans h.c,(hb.frozen (p:=⟨g,0,none⟩) h.lt).trans h.f⟩
theorem Box.set {W:World} {g:Nat} {u:Value} (h:Box W g u) (x:Value):Box (W.setCell ⟨g,0,none⟩ x) g x :=
  ⟨World.cell?_setCell_same _ _ _ h.c,by rw[World.frozen?_setCell];exact h.f⟩
theorem Box.other {W:World} {g k:Nat} {u:Value} (h:Box W g u) (hk:g≠k) (x:Value):Box (W.setCell ⟨k,0,none⟩ x) g u :=
  ⟨by rw[World.cell?_setCell_other _ _ _ _ (by intro e;cases e;exact hk rfl)];exact h.c,by rw[World.frozen?_setCell];exact h.f⟩
end Go.Proofs.YtamoadanapmmeaaGreatDoor

namespace Go.Proofs.YtamoadanapmmeaaGreatDoor
open Go.RowKit
def DivAns (k:Nat):Prop:=∀ (W:World) (x y:Value) (m n:Nat),IsBig W x m→IsBig W y n→m<1000000000 ^ k→0<n→
  Calls Tryz.prog 149 #[x,y] W fun e w'=>∃ a1 n1 c1 a2 n2 c2,e=.returned (.tuple #[.agg #[.slice a1 n1 c1],.agg #[.slice a2 n2 c2]])∧IsBig w' (.agg #[.slice a1 n1 c1]) (m / n)∧IsBig w' (.agg #[.slice a2 n2 c2]) (m % n)∧Below W.heap.size W w'
def GcdAns (k:Nat):Prop:=∀ (W:World) (x y:Value) (m n:Nat),IsBig W x m→IsBig W y n→m<1000000000 ^ k→n<1000000000 ^ k→
  Calls Tryz.prog 148 #[x,y] W fun e w'=>∃ a l c,e=.returned (.agg #[.slice a l c])∧IsBig w' (.agg #[.slice a l c]) (Nat.gcd m n)∧Below W.heap.size W w'
structure LwSt (w W:World) (u v p q:Value):Prop where
  b1:Box W w.heap.size u
  b2:Box W (w.heap.size+1) v
  b3:Box W (w.heap.size+1+1) p
  b4:Box W (w.heap.size+1+1+1) q
  below:Below w.heap.size w W
theorem LwSt.later {w W V:World} {u v p q:Value} (s:LwSt w W u v p q) (hb:Below W.heap.size W V):LwSt w V u v p q :=
  ⟨s.b1.later hb,s.b2.later hb,s.b3.later hb,s.b4.later hb,s.below.trans (hb.mono s.below.size)⟩
theorem LwSt.first (w:World) (u v p q:Value):LwSt w ((((w.alloc (.cells #[u] 80)).alloc (.cells #[v] 80)).alloc (.cells #[p] 80)).alloc (.cells #[q] 80)) u v p q :=
  ⟨⟨by simp[go_sem],by simp[go_sem]⟩,⟨by simp[go_sem],by simp[go_sem]⟩,⟨by simp[go_sem],by simp[go_sem]⟩,⟨by simp[go_sem],by simp[go_sem]⟩,
    ((((Below.refl _ _).alloc (Nat.le_refl _) _).alloc (by simp) _).alloc (by simp;omega) _).alloc (by simp;omega) _⟩
theorem LwSt.set3 {w W:World} {u v p q:Value} (s:LwSt w W u v p q) (x:Value):LwSt w (W.setCell ⟨w.heap.size+1+1,0,none⟩ x) u v x q :=
  ⟨s.b1.other (by omega) x,s.b2.other (by omega) x,s.b3.set x,s.b4.other (by omega) x,s.below.setCell (by simp;omega) _⟩
theorem LwSt.set4 {w W:World} {u v p q:Value} (s:LwSt w W u v p q) (x:Value):LwSt w (W.setCell ⟨w.heap.size+1+1+1,0,none⟩ x) u v p x :=
  ⟨s.b1.other (by omega) x,s.b2.other (by omega) x,s.b3.other (by omega) x,s.b4.set x,s.below.setCell (by simp;omega) _⟩
theorem LwSt.set1 {w W:World} {u v p q:Value} (s:LwSt w W u v p q) (x:Value):LwSt w (W.setCell ⟨w.heap.size,0,none⟩ x) x v p q :=
  ⟨s.b1.set x,s.b2.other (by omega) x,s.b3.other (by omega) x,s.b4.other (by omega) x,s.below.setCell (by simp) _⟩
theorem LwSt.set2 {w W:World} {u v p q:Value} (s:LwSt w W u v p q) (x:Value):LwSt w (W.setCell ⟨w.heap.size+1,0,none⟩ x) u x p q :=
  ⟨s.b1.other (by omega) x,s.b2.set x,s.b3.other (by omega) x,s.b4.other (by omega) x,s.below.setCell (by simp) _⟩
theorem not_int (a:Option Addr) (l c:Nat):∀ k n,(Value.slice a l c)≠.int k n:=fun _ _ e=>by cases e
set_option maxRecDepth 100000 in
set_option maxHeartbeats 2000000 in
theorem lowest_any (x y:Value) (m n k:Nat) (w:World) (hx:IsBig w x m) (hy:IsBig w y n) (hm:m<1000000000 ^ k) (hn:n<1000000000 ^ k) (h0:0<n) (hD:DivAns k) (hG:GcdAns k) :
    Calls Tryz.prog 152 #[x,y] w fun e w'=>∃ a1 l1 c1 a2 l2 c2,e=.returned (.tuple #[.agg #[.slice a1 l1 c1],.agg #[.slice a2 l2 c2]])∧IsBig w' (.agg #[.slice a1 l1 c1]) (m / Nat.gcd m n)∧IsBig w' (.agg #[.slice a2 l2 c2]) (n / Nat.gcd m n)∧Below w.heap.size w w':=by
  have HX:=hide hx
  have HY:=hide hy
  obtain ⟨ap,np,cp,rfl⟩:=hx.shape
  obtain ⟨aq,nq,cq,rfl⟩:=hy.shape
  have H51x:Hid (∀ W,IsBig W (.agg #[.slice ap np cp]) m→Calls Tryz.prog 188 #[.agg #[.slice ap np cp]] W fun e w'=>e=.returned (.bool (m == 1))∧Below W.heap.size W w'):=fun W h=>isOne_any _ m W h
  have H51y:Hid (∀ W,IsBig W (.agg #[.slice aq nq cq]) n→Calls Tryz.prog 188 #[.agg #[.slice aq nq cq]] W fun e w'=>e=.returned (.bool (n == 1))∧Below W.heap.size W w'):=fun W h=>isOne_any _ n W h
  have HD:=hide hD
  have HG:=hide hG
  have HM:=hide hm
  have HNN:=hide hn
  have H0:=hide h0
  clear hx hy hm hn h0 hD hG
  have HS0:=hide (LwSt.first w (.slice ap np cp) (.slice aq nq cq) (.slice none 0 0) (.slice none 0 0))
  go_enter Tryz.func152,Tryz.ntmps152
  by_cases h1:m=1
  · have hg:m / Nat.gcd m n=m∧n / Nat.gcd m n=n:=by rw[h1];simp
    rw[hg.1,hg.2]
    rw[show (m == 1)=true by rw[h1];rfl] at H51x
    clear hg h1
    go_upto_region 2 with (go_at_call_of 188 (Value.agg #[Value.slice ap np cp]);go_must (refine (un H51x _ ((un HX).later (un HS0).below)).mono ?_;rintro e w1 ⟨rfl,hb1⟩;have HS:=hide ((un HS0).later hb1);have HX1:=hide (((un HX).later (un HS0).below).later hb1);have HY1:=hide (((un HY).later (un HS0).below).later hb1);have b1:=(un HS).b1.c;have b2:=(un HS).b2.c;clear hb1))
    clear HS0 b1 b2
    have b1:=(un HS).b1.c;have b2:=(un HS).b2.c;have b3:=(un HS).b3.c;have b4:=(un HS).b4.c
    have f3:=(un HS).b3.f;have f4:=(un HS).b4.f
    go_region
    obtain ⟨V,hV⟩:∃ V,V=(((w1.setCell ⟨w.heap.size+1+1,0,none⟩ (.slice ap np cp)).setCell ⟨w.heap.size+1+1+1,0,none⟩ (.slice aq nq cq)).drew):=⟨_,rfl⟩
    have HE:Hid (LwSt w V (.slice ap np cp) (.slice aq nq cq) (.slice ap np cp) (.slice aq nq cq)∧IsBig V (.agg #[.slice ap np cp]) m∧IsBig V (.agg #[.slice aq nq cq]) n):=by
      rw[hV]
      refine ⟨(((un HS).set3 _).set4 _).later ((Below.refl _ _).drew),?_,?_⟩
      · exact (((un HX1).box _ (un HS).b3.c (not_int _ _ _)).box _ ((un HS).set3 _).b4.c (not_int _ _ _)).later ((Below.refl _ _).drew)
      · exact (((un HY1).box _ (un HS).b3.c (not_int _ _ _)).box _ ((un HS).set3 _).b4.c (not_int _ _ _)).later ((Below.refl _ _).drew)
    rw[← hV]
    clear hV b1 b2 b3 b4 f3 f4
    have d3:=(un HE).1.b3.c;have d4:=(un HE).1.b4.c
    go_wp2_with fail
    exact bodyPost_ret (v:=.tuple #[.agg #[.slice ap np cp],.agg #[.slice aq nq cq]]) (by simp[results,Tryz.results152,go_sem,d3,d4]) rfl ⟨_,_,_,_,_,_,rfl,(un HE).2.1,(un HE).2.2,(un HE).1.below⟩
  · rw[show (m == 1)=false by rw[beq_eq_false_iff_ne];exact h1] at H51x
    by_cases h2:n=1
    · have hg:m / Nat.gcd m n=m∧n / Nat.gcd m n=n:=by rw[h2];simp
      rw[hg.1,hg.2]
      rw[show (n == 1)=true by rw[h2];rfl] at H51y
      clear hg h1 h2
      go_upto_region 2 with (first
        | (go_at_call_of 188 (Value.agg #[Value.slice ap np cp]);go_must (refine (un H51x _ ((un HX).later (un HS0).below)).mono ?_;rintro e w1 ⟨rfl,hb1⟩;have HS:=hide ((un HS0).later hb1);have HX1:=hide (((un HX).later (un HS0).below).later hb1);have HY1:=hide (((un HY).later (un HS0).below).later hb1);have b1:=(un HS).b1.c;have b2:=(un HS).b2.c;clear hb1))
        | (go_at_call_of 188 (Value.agg #[Value.slice aq nq cq]);go_must (refine (un H51y w1 (un HY1)).mono ?_;rintro e w2 ⟨rfl,hb2⟩;have HS2:=hide ((un HS).later hb2);have HX2:=hide ((un HX1).later hb2);have HY2:=hide ((un HY1).later hb2);clear b1 b2 hb2;have b1:=(un HS2).b1.c;have b2:=(un HS2).b2.c)))
      clear HS0 b1 b2
      have b1:=(un HS2).b1.c;have b2:=(un HS2).b2.c;have b3:=(un HS2).b3.c;have b4:=(un HS2).b4.c
      have f3:=(un HS2).b3.f;have f4:=(un HS2).b4.f
      go_region
      obtain ⟨V,hV⟩:∃ V,V=(((w2.setCell ⟨w.heap.size+1+1,0,none⟩ (.slice ap np cp)).setCell ⟨w.heap.size+1+1+1,0,none⟩ (.slice aq nq cq)).drew):=⟨_,rfl⟩
      have HE:Hid (LwSt w V (.slice ap np cp) (.slice aq nq cq) (.slice ap np cp) (.slice aq nq cq)∧IsBig V (.agg #[.slice ap np cp]) m∧IsBig V (.agg #[.slice aq nq cq]) n):=by
        rw[hV]
        refine ⟨(((un HS2).set3 _).set4 _).later ((Below.refl _ _).drew),?_,?_⟩
        · exact (((un HX2).box _ (un HS2).b3.c (not_int _ _ _)).box _ ((un HS2).set3 _).b4.c (not_int _ _ _)).later ((Below.refl _ _).drew)
        · exact (((un HY2).box _ (un HS2).b3.c (not_int _ _ _)).box _ ((un HS2).set3 _).b4.c (not_int _ _ _)).later ((Below.refl _ _).drew)
      rw[← hV]
      clear hV b1 b2 b3 b4 f3 f4
      have d3:=(un HE).1.b3.c;have d4:=(un HE).1.b4.c
      go_wp2_with fail
      exact bodyPost_ret (v:=.tuple #[.agg #[.slice ap np cp],.agg #[.slice aq nq cq]]) (by simp[results,Tryz.results152,go_sem,d3,d4]) rfl ⟨_,_,_,_,_,_,rfl,(un HE).2.1,(un HE).2.2,(un HE).1.below⟩
    · rw[show (n == 1)=false by rw[beq_eq_false_iff_ne];exact h2] at H51y
      clear h1 h2
      go_upto_region 4 with (first
        | (go_at_call_of 188 (Value.agg #[Value.slice ap np cp]);go_must (refine (un H51x _ ((un HX).later (un HS0).below)).mono ?_;rintro e w1 ⟨rfl,hb1⟩;have HS:=hide ((un HS0).later hb1);have HX1:=hide (((un HX).later (un HS0).below).later hb1);have HY1:=hide (((un HY).later (un HS0).below).later hb1);have b1:=(un HS).b1.c;have b2:=(un HS).b2.c;clear hb1))
        | (go_at_call_of 188 (Value.agg #[Value.slice aq nq cq]);go_must (refine (un H51y w1 (un HY1)).mono ?_;rintro e w2 ⟨rfl,hb2⟩;have HS2:=hide ((un HS).later hb2);have HX2:=hide ((un HX1).later hb2);have HY2:=hide ((un HY1).later hb2);clear b1 b2 hb2;have b1:=(un HS2).b1.c;have b2:=(un HS2).b2.c))
        | (go_at_call 148;go_must (refine (un HG w2 _ _ m n (un HX2) (un HY2) (un HM) (un HNN)).mono ?_;rintro e w3 ⟨ag,lg,cg,rfl,hg3,hb3⟩;have HS3:=hide ((un HS2).later hb3);have HX3:=hide ((un HX2).later hb3);have HY3:=hide ((un HY2).later hb3);have HG3:=hide hg3;clear b1 b2 hg3 hb3)))
      clear HS0
      obtain ⟨V,hV⟩:∃ V,V=w3.alloc (.cells #[.slice ag lg cg] 80):=⟨_,rfl⟩
      have hbV:Below w3.heap.size w3 V:=by rw[hV];exact (Below.refl _ _).alloc (Nat.le_refl _) _
      have HS4:=hide ((un HS3).later hbV);have HX4:=hide ((un HX3).later hbV);have HY4:=hide ((un HY3).later hbV);have HG4:=hide ((un HG3).later hbV)
      have HB4:Hid (Box V w3.heap.size (.slice ag lg cg)):=by rw[hV];exact ⟨by simp[go_sem],by simp[go_sem]⟩
      have hlt:w.heap.size+1+1+1<w3.heap.size:=(un HS3).b4.lt
      rw[← hV]
      clear hV hbV HS3 HX3 HY3 HG3 HS2 HX2 HY2 HS HX1 HY1
      generalize hgb:w3.heap.size=gb at *
      clear hgb
      have H51g:Hid (∀ W,IsBig W (.agg #[.slice ag lg cg]) (Nat.gcd m n)→Calls Tryz.prog 188 #[.agg #[.slice ag lg cg]] W fun e w'=>e=.returned (.bool (Nat.gcd m n == 1))∧Below W.heap.size W w'):=fun W h=>isOne_any _ _ W h
      have q6:=(un HB4).c
      by_cases h3:Nat.gcd m n=1
      · have HGE:Hid (m / Nat.gcd m n=m∧n / Nat.gcd m n=n):=⟨by rw[h3];simp,by rw[h3];simp⟩
        rw[show (Nat.gcd m n == 1)=true by rw[h3];rfl] at H51g
        clear h3
        go_upto_region 5 with (go_at_call 188;go_must (refine (un H51g V (un HG4)).mono ?_;rintro e w4 ⟨rfl,hb4⟩;have HS5:=hide ((un HS4).later hb4);have HX5:=hide ((un HX4).later hb4);have HY5:=hide ((un HY4).later hb4);clear hb4 q6))
        clear HS4 HX4 HY4 HG4 HB4
        have b1:=(un HS5).b1.c;have b2:=(un HS5).b2.c;have b3:=(un HS5).b3.c;have b4:=(un HS5).b4.c
        have f3:=(un HS5).b3.f;have f4:=(un HS5).b4.f
        go_region
        obtain ⟨V,hV⟩:∃ V,V=(((w4.setCell ⟨w.heap.size+1+1,0,none⟩ (.slice ap np cp)).setCell ⟨w.heap.size+1+1+1,0,none⟩ (.slice aq nq cq)).drew):=⟨_,rfl⟩
        have HE:Hid (LwSt w V (.slice ap np cp) (.slice aq nq cq) (.slice ap np cp) (.slice aq nq cq)∧IsBig V (.agg #[.slice ap np cp]) m∧IsBig V (.agg #[.slice aq nq cq]) n):=by
          rw[hV]
          refine ⟨(((un HS5).set3 _).set4 _).later ((Below.refl _ _).drew),?_,?_⟩
          · exact (((un HX5).box _ (un HS5).b3.c (not_int _ _ _)).box _ ((un HS5).set3 _).b4.c (not_int _ _ _)).later ((Below.refl _ _).drew)
          · exact (((un HY5).box _ (un HS5).b3.c (not_int _ _ _)).box _ ((un HS5).set3 _).b4.c (not_int _ _ _)).later ((Below.refl _ _).drew)
        rw[← hV]
        clear hV b1 b2 b3 b4 f3 f4
        have d3:=(un HE).1.b3.c;have d4:=(un HE).1.b4.c
        go_wp2_with fail
        exact bodyPost_ret (v:=.tuple #[.agg #[.slice ap np cp],.agg #[.slice aq nq cq]]) (by simp[results,Tryz.results152,go_sem,d3,d4]) rfl ⟨_,_,_,_,_,_,rfl,(by rw[(un HGE).1];exact (un HE).2.1),(by rw[(un HGE).2];exact (un HE).2.2),(un HE).1.below⟩
      · have HGP:Hid (0<Nat.gcd m n):=Nat.gcd_pos_of_pos_right _ (un H0)
        rw[show (Nat.gcd m n == 1)=false by rw[beq_eq_false_iff_ne];exact h3] at H51g
        clear h3
        go_upto_region 6 with (go_at_call 188;go_must (refine (un H51g V (un HG4)).mono ?_;rintro e w4 ⟨rfl,hb4⟩;have HS5:=hide ((un HS4).later hb4);have HX5:=hide ((un HX4).later hb4);have HY5:=hide ((un HY4).later hb4);have HG5:=hide ((un HG4).later hb4);have HB5:=hide ((un HB4).later hb4);clear hb4 q6))
        clear HS4 HX4 HY4 HG4 HB4
        have b1:=(un HS5).b1.c;have b2:=(un HS5).b2.c;have q6:=(un HB5).c
        go_upto_region 7 with (go_at_call 149;go_must (refine (un HD w4 _ _ m (Nat.gcd m n) (un HX5) (un HG5) (un HM) (un HGP)).mono ?_;rintro e w5 ⟨a1,l1,c1,a2,l2,c2,rfl,hq,hr,hb5⟩;have HS6:=hide ((un HS5).later hb5);have HY6:=hide ((un HY5).later hb5);have HG6:=hide ((un HG5).later hb5);have HB6:=hide ((un HB5).later hb5);have HQ6:=hide hq;clear hb5 hq hr b1 b2 q6;have b1:=(un HS6).b1.c;have f1:=(un HS6).b1.f))
        obtain ⟨V6,hV6⟩:∃ V6,V6=w5.setCell ⟨w.heap.size,0,none⟩ (.slice a1 l1 c1):=⟨_,rfl⟩
        have HS7:Hid (LwSt w V6 (.slice a1 l1 c1) (.slice aq nq cq) (.slice none 0 0) (.slice none 0 0)):=by rw[hV6];exact (un HS6).set1 _
        have HY7:Hid (IsBig V6 (.agg #[.slice aq nq cq]) n):=by rw[hV6];exact (un HY6).box _ b1 (not_int _ _ _)
        have HG7:Hid (IsBig V6 (.agg #[.slice ag lg cg]) (Nat.gcd m n)):=by rw[hV6];exact (un HG6).box _ b1 (not_int _ _ _)
        have HQ7:Hid (IsBig V6 (.agg #[.slice a1 l1 c1]) (m / Nat.gcd m n)):=by rw[hV6];exact (un HQ6).box _ b1 (not_int _ _ _)
        have HB7:Hid (Box V6 gb (.slice ag lg cg)):=by rw[hV6];exact (un HB6).other (by omega) _
        rw[← hV6]
        clear hV6 HS6 HY6 HG6 HQ6 HB6 HS5 HX5 HY5 HG5 HB5 b1 f1
        have b2:=(un HS7).b2.c;have q6:=(un HB7).c
        go_upto_region 8 with (go_at_call 149;go_must (refine (un HD V6 _ _ n (Nat.gcd m n) (un HY7) (un HG7) (un HNN) (un HGP)).mono ?_;rintro e w7 ⟨a3,l3,c3,a4,l4,c4,rfl,hq,hr,hb7⟩;have HS8:=hide ((un HS7).later hb7);have HQ8:=hide ((un HQ7).later hb7);have HR8:=hide hq;clear hb7 hq hr b2 q6;have b2:=(un HS8).b2.c;have f2:=(un HS8).b2.f))
        obtain ⟨V8,hV8⟩:∃ V8,V8=w7.setCell ⟨w.heap.size+1,0,none⟩ (.slice a3 l3 c3):=⟨_,rfl⟩
        have HS9:Hid (LwSt w V8 (.slice a1 l1 c1) (.slice a3 l3 c3) (.slice none 0 0) (.slice none 0 0)):=by rw[hV8];exact (un HS8).set2 _
        have HQ9:Hid (IsBig V8 (.agg #[.slice a1 l1 c1]) (m / Nat.gcd m n)):=by rw[hV8];exact (un HQ8).box _ b2 (not_int _ _ _)
        have HR9:Hid (IsBig V8 (.agg #[.slice a3 l3 c3]) (n / Nat.gcd m n)):=by rw[hV8];exact (un HR8).box _ b2 (not_int _ _ _)
        rw[← hV8]
        clear hV8 HS8 HQ8 HR8 HS7 HY7 HG7 HQ7 HB7 b2 f2
        have b1:=(un HS9).b1.c;have b2:=(un HS9).b2.c;have b3:=(un HS9).b3.c;have b4:=(un HS9).b4.c
        have f3:=(un HS9).b3.f;have f4:=(un HS9).b4.f
        go_region
        obtain ⟨V,hV⟩:∃ V,V=(((V8.setCell ⟨w.heap.size+1+1,0,none⟩ (.slice a1 l1 c1)).setCell ⟨w.heap.size+1+1+1,0,none⟩ (.slice a3 l3 c3)).drew):=⟨_,rfl⟩
        have HE:Hid (LwSt w V (.slice a1 l1 c1) (.slice a3 l3 c3) (.slice a1 l1 c1) (.slice a3 l3 c3)∧IsBig V (.agg #[.slice a1 l1 c1]) (m / Nat.gcd m n)∧IsBig V (.agg #[.slice a3 l3 c3]) (n / Nat.gcd m n)):=by
          rw[hV]
          refine ⟨(((un HS9).set3 _).set4 _).later ((Below.refl _ _).drew),?_,?_⟩
          · exact (((un HQ9).box _ (un HS9).b3.c (not_int _ _ _)).box _ ((un HS9).set3 _).b4.c (not_int _ _ _)).later ((Below.refl _ _).drew)
          · exact (((un HR9).box _ (un HS9).b3.c (not_int _ _ _)).box _ ((un HS9).set3 _).b4.c (not_int _ _ _)).later ((Below.refl _ _).drew)
        rw[← hV]
        clear hV b1 b2 b3 b4 f3 f4
        have d3:=(un HE).1.b3.c;have d4:=(un HE).1.b4.c
        go_wp2_with fail
        exact bodyPost_ret (v:=.tuple #[.agg #[.slice a1 l1 c1],.agg #[.slice a3 l3 c3]]) (by simp[results,Tryz.results152,go_sem,d3,d4]) rfl ⟨_,_,_,_,_,_,rfl,(un HE).2.1,(un HE).2.2,(un HE).1.below⟩
end Go.Proofs.YtamoadanapmmeaaGreatDoor

namespace Cub
structure Low (b:Bool) (n d:Nat):Prop where
  pos:0<d
  cop:Nat.gcd n d=1
  sign:b=true→n≠0
def sg (b:Bool) (n:Nat):Int:=if b then -(n:Int) else n
def valQ (b:Bool) (n d:Nat):Rat:=((sg b n:Int):Rat) / ((d:Nat):Rat)
theorem sg_abs (b:Bool) (n:Nat):(sg b n).natAbs=n:=by cases b<;>simp[sg]
theorem sg_mul (b c:Bool) (n m:Nat):sg b n*sg c m=sg (b != c) (n*m):=by
  cases b<;>cases c<;>simp[sg,Int.mul_neg,Int.neg_mul]
theorem sg_mulNat (b:Bool) (n m:Nat):sg b n*(m:Int)=sg b (n*m):=by cases b<;>simp[sg,Int.neg_mul]
theorem sg_zero (b:Bool):sg b 0=0:=by cases b<;>rfl
theorem dR {d:Nat} (h:0<d):((d:Nat):Rat)≠0:=by
  have:d≠0:=by omega
  exact_mod_cast this
theorem div_eq_iff {a b c d:Rat} (hb:b≠0) (hd:d≠0):a / b=c / d↔a*d=c*b:=by
  constructor
  · intro h;grind
  · intro h;grind
theorem valQ_eq {b b':Bool} {n d n' d':Nat} (hd:0<d) (hd':0<d'):valQ b n d=valQ b' n' d'↔sg b n*(d':Int)=sg b' n'*(d:Int):=by
  unfold valQ
  rw[div_eq_iff (dR hd) (dR hd')]
  constructor
  · intro h;exact_mod_cast h
  · intro h;exact_mod_cast h
theorem low_unique {b b':Bool} {n d n' d':Nat} (h:Low b n d) (h':Low b' n' d') (e:valQ b n d=valQ b' n' d'):b=b'∧n=n'∧d=d':=by
  have e1:=(valQ_eq h.pos h'.pos).1 e
  have e2:n*d'=n'*d:=by
    have:=congrArg Int.natAbs e1
    rw[Int.natAbs_mul,Int.natAbs_mul,sg_abs,sg_abs] at this
    simpa using this
  have d1:d ∣ d':=by
    have:d ∣ n*d':=⟨n',by rw[e2,Nat.mul_comm]⟩
    exact (Nat.Coprime.dvd_of_dvd_mul_left (Nat.Coprime.symm h.cop) this)
  have d2:d' ∣ d:=by
    have:d' ∣ n'*d:=⟨n,by rw[← e2,Nat.mul_comm]⟩
    exact (Nat.Coprime.dvd_of_dvd_mul_left (Nat.Coprime.symm h'.cop) this)
  have ed:d=d':=Nat.dvd_antisymm d1 d2
  subst ed
  have en:n=n':=Nat.eq_of_mul_eq_mul_right h.pos e2
  subst en
  refine ⟨?_,rfl,rfl⟩
  have e3:sg b n=sg b' n:=Int.eq_of_mul_eq_mul_right (by have:=h.pos;omega) e1
  by_cases hn:n=0
  · have hb:b=false:=by cases b with|false=>rfl|true=>exact absurd hn (h.sign rfl)
    have hb':b'=false:=by cases b' with|false=>rfl|true=>exact absurd hn (h'.sign rfl)
    rw[hb,hb']
  · cases b<;>cases b'<;>first|rfl|(exfalso;simp[sg] at e3;omega)
theorem lowest_cop {n d:Nat} (hd:0<d):Nat.gcd (n / Nat.gcd n d) (d / Nat.gcd n d)=1∧0<d / Nat.gcd n d∧n / Nat.gcd n d*d=n*(d / Nat.gcd n d):=by
  have hg:0<Nat.gcd n d:=Nat.gcd_pos_of_pos_right _ hd
  obtain ⟨a,ha⟩:=Nat.gcd_dvd_left n d
  obtain ⟨c,hc⟩:=Nat.gcd_dvd_right n d
  have h1:n / Nat.gcd n d=a:=by rw[Nat.div_eq_of_eq_mul_right hg ha]
  have h2:d / Nat.gcd n d=c:=by rw[Nat.div_eq_of_eq_mul_right hg hc]
  refine ⟨Nat.coprime_div_gcd_div_gcd hg,?_,?_⟩
  · rw[h2]
    rcases Nat.eq_zero_or_pos c with h|h
    · rw[h] at hc;omega
    · exact h
  · rw[h1,h2]
    generalize Nat.gcd n d=g at *
    rw[ha,hc]
    grind
theorem mul_low {b c:Bool} {n d m e:Nat} (h:Low b n d) (k:Low c m e) :
    Low ((b != c) && decide (n / Nat.gcd n e*(m / Nat.gcd m d)≠0)) (n / Nat.gcd n e*(m / Nat.gcd m d)) (d / Nat.gcd m d*(e / Nat.gcd n e))∧
      valQ ((b != c) && decide (n / Nat.gcd n e*(m / Nat.gcd m d)≠0)) (n / Nat.gcd n e*(m / Nat.gcd m d)) (d / Nat.gcd m d*(e / Nat.gcd n e))=valQ b n d*valQ c m e:=by
  obtain ⟨p1,p2,p3⟩:=lowest_cop (n:=n) k.pos
  obtain ⟨q1,q2,q3⟩:=lowest_cop (n:=m) h.pos
  have hn:n / Nat.gcd n e ∣ n:=Nat.div_dvd_of_dvd (Nat.gcd_dvd_left n e)
  have hm:m / Nat.gcd m d ∣ m:=Nat.div_dvd_of_dvd (Nat.gcd_dvd_left m d)
  have hd:d / Nat.gcd m d ∣ d:=Nat.div_dvd_of_dvd (Nat.gcd_dvd_right m d)
  have he:e / Nat.gcd n e ∣ e:=Nat.div_dvd_of_dvd (Nat.gcd_dvd_right n e)
  have hk:=k.pos
  have hh:=h.pos
  have c1:Nat.Coprime (n / Nat.gcd n e) (d / Nat.gcd m d):=Nat.Coprime.coprime_dvd_left hn (Nat.Coprime.coprime_dvd_right hd h.cop)
  have c2:Nat.Coprime (m / Nat.gcd m d) (e / Nat.gcd n e):=Nat.Coprime.coprime_dvd_left hm (Nat.Coprime.coprime_dvd_right he k.cop)
  generalize n / Nat.gcd n e=n' at *
  generalize e / Nat.gcd n e=e' at *
  generalize m / Nat.gcd m d=m' at *
  generalize d / Nat.gcd m d=d' at *
  have hpos:0<d'*e':=Nat.mul_pos q2 p2
  refine ⟨⟨hpos,?_,fun hs=>by rw[Bool.and_eq_true,decide_eq_true_iff] at hs;exact hs.2⟩,?_⟩
  · have a1:Nat.Coprime n' (d'*e'):=Nat.Coprime.mul_right c1 p1
    have a2:Nat.Coprime m' (d'*e'):=Nat.Coprime.mul_right q1 c2
    exact Nat.Coprime.mul_left a1 a2
  · have e1:valQ b n d*valQ c m e=valQ (b != c) (n*m) (d*e):=by
      unfold valQ
      rw[← sg_mul]
      have x1:=dR hh
      have x2:=dR hk
      push_cast
      grind
    rw[e1,valQ_eq hpos (Nat.mul_pos hh hk),sg_mulNat,sg_mulNat]
    have e2:n'*m'*(d*e)=n*m*(d'*e'):=by
      have:(n'*e)*(m'*d)=(n*e')*(m*d'):=by rw[p3,q3]
      grind
    rw[e2]
    by_cases h0:n'*m'=0
    · rw[h0,Nat.zero_mul] at e2
      rw[← e2,sg_zero,sg_zero]
    · simp[h0]
end Cub

namespace Cub
theorem valQ_zero (b:Bool) (d:Nat):valQ b 0 d=0:=by
  unfold valQ
  rw[sg_zero,Rat.div_def]
  push_cast
  exact Rat.zero_mul _
theorem inv_low {b:Bool} {n d:Nat} (h:Low b n d) (hn:n≠0):Low b d n∧valQ b d n=(valQ b n d)⁻¹:=by
  refine ⟨⟨by omega,by rw[Nat.gcd_comm];exact h.cop,fun _=>by have:=h.pos;omega⟩,?_⟩
  have x1:=dR h.pos
  have x2:((n:Nat):Rat)≠0:=dR (by omega)
  unfold valQ sg
  cases b<;>simp only[Bool.false_eq_true,if_true,if_false]<;>push_cast<;>grind
theorem num_below (x:Rat):x.num<0↔x<0:=by
  have h:=Rat.num_nonneg (q:=x)
  constructor
  · intro h1
    exact Rat.not_le.1 fun h2=>by have:=h.2 h2;omega
  · intro h1
    have:¬ 0≤x.num:=fun h2=>Rat.not_le.2 h1 (h.1 h2)
    omega
theorem low_of (x:Rat):Low (decide (x<0)) x.num.natAbs x.den∧valQ (decide (x<0)) x.num.natAbs x.den=x:=by
  have hs:sg (decide (x<0)) x.num.natAbs=x.num:=by
    unfold sg
    by_cases h:x<0
    · have:x.num<0:=(num_below x).2 h
      simp only[h,decide_true,if_true];omega
    · have:¬ x.num<0:=fun h2=>h ((num_below x).1 h2)
      simp only[h,decide_false,Bool.false_eq_true,if_false];omega
  refine ⟨⟨x.den_pos,x.reduced,fun h=>?_⟩,?_⟩
  · have:=(num_below x).2 (of_decide_eq_true h)
    omega
  · unfold valQ
    rw[hs,← Rat.mkRat_eq_div,Rat.mkRat_self]
theorem low_is {b:Bool} {n d:Nat} (h:Low b n d):b=decide (valQ b n d<0)∧n=(valQ b n d).num.natAbs∧d=(valQ b n d).den :=
  low_unique h (low_of _).1 (low_of _).2.symm
theorem valQ_lt {b c:Bool} {n d m e:Nat} (hd:0<d) (he:0<e):valQ b n d<valQ c m e↔sg b n*(e:Int)<sg c m*(d:Int):=by
  unfold valQ
  rw[Rat.div_lt_iff (Rat.natCast_pos.2 hd),Rat.div_def,show ((sg c m:Int):Rat)*((e:Nat):Rat)⁻¹*((d:Nat):Rat)=((sg c m:Int):Rat)*((d:Nat):Rat) / ((e:Nat):Rat) by rw[Rat.div_def];grind,Rat.lt_div_iff (Rat.natCast_pos.2 he)]
  constructor
  · intro h;exact_mod_cast h
  · intro h;exact_mod_cast h
def cmpQ (x y:Rat):Int:=if x<y then -1 else if y<x then 1 else 0
theorem sign_val {b:Bool} {n d:Nat} (h:Low b n d):(if b then -1 else if n=0 then (0:Int) else 1)=cmpQ (valQ b n d) 0:=by
  have hz:(0:Rat)=valQ false 0 1:=(valQ_zero false 1).symm
  have hd:=h.pos
  have hb:=h.sign
  unfold cmpQ
  rw[hz]
  simp only[valQ_lt h.pos (show 0<1 by omega),valQ_lt (show 0<1 by omega) h.pos,sg_zero]
  cases b
  · by_cases hn:n=0
    · subst hn;simp[sg]
    · have:0<n:=by omega
      simp[sg,hn,this]
  · have:0<n:=by have:=hb rfl;omega
    simp[sg,this]
end Cub

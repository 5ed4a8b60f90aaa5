/- What all texts on names share. -/
import Derived.Test.YtamoadanapmmeaaGreatDoorLimb3
import Derived.Test.YtamoadanapmmeaaGreatDoorTr8
import Derived.Great.BuildSlice
import Derived.Test.YtamoadanapmmeaaGreatDoorUnit
import Derived.Test.YtamoadanapmmeaaGreatDoorProg
import Derived.WalkKit
import Derived.WalkSpells
import Derived.WalkLawsBesides
namespace Go.Proofs.YtamoadanapmmeaaGreatDoor.Tr
open Go.RowKit
def rtT (t:Tu):Array Value:=#[.string t.nm,.string t.sy,I (dvT t 0),I (dvT t 1),I (dvT t 2),I (dvT t 3),I (dvT t 4),I (dvT t 5),I (dvT t 6),I (dvT t 7),.string t.fn,.string t.fd,.string ⟨#[48]⟩,.string ⟨#[49]⟩,I 0]
def rowA (t:Tu):Array Value:=#[.string t.nm,.string t.sy,.func (.func t.f) #[] #[]]
theorem dim_of (t:Tu) (w:World) (hok:okD t=true):Calls Tryz.prog 101 #[.agg #[I (evT t 0),I (evT t 1),I (evT t 2),I (evT t 3),I (evT t 4),I (t.n:Int),I (t.d:Int)],.agg partsT] w fun r w'=>r=.returned (.agg #[I (dvT t 0),I (dvT t 1),I (dvT t 2),I (dvT t 3),I (dvT t 4),I (dvT t 5),I (dvT t 6),I (dvT t 7)])∧Below w.heap.size w w':=by
 obtain⟨h1,h2⟩:=okD_at hok
 have h:=dimT (evT t) t.n t.d partsT puD (fun k j=>puD k j*evT t k) (prT t) w partsT_dim (fun k hk W=>pow_two (puD k) (evT t k) W (puD_le k hk) (fun j hj=>(h1 k hk j hj).2.1)) (fun k hk b W ho=>mul_two (prT t k) (fun j=>puD k j*evT t k) (prT t (k+1)) b W (fun j hj=>(h1 k hk j hj).1) (fun j hj=>(h1 k hk j hj).2.1) (fun j hj=>⟨(h1 k hk j hj).2.2.1,(h1 k hk j hj).2.2.2,rfl⟩) ho) rfl
 rw[h2 0 (by decide),h2 1 (by decide),h2 2 (by decide),h2 3 (by decide),h2 4 (by decide),h2 5 (by decide),h2 6 (by decide),h2 7 (by decide)]at h
 exact h
def pdT (e:Int):ByteArray:=if e=1 then uDt 1 else⟨#[49]⟩
theorem isR_pd (e:Int) (h:e=0∨e=1):IsR ⟨#[49]⟩ (pdT e) (Cub.pw (1 / 1000) e):=by
 rcases h with rfl|rfl
 ·rw[show Cub.pw (1 / 1000) 0=1 from by decide +kernel];exact isR_one
 ·rw[show Cub.pw (1 / 1000) 1=1 / 1000 from by decide +kernel];exact isR_milli
def pDt (t:Tu):Nat→ByteArray
 | 1=>pdT t.e1
 | _=>⟨#[49]⟩
def fNt (t:Tu):Nat→ByteArray
 | 0=>t.an
 | 1=>t.an
 | _=>t.fn
def fDt (t:Tu):Nat→ByteArray
 | 0=>t.ad
 | 1=>t.ad
 | _=>t.fd
theorem fac_of (t:Tu) (q0 q2:Rat) (w:World) (htab:Tab w) (hE:∀k,k<5→-99≤evT t k∧evT t k≤99) (h01:t.e1=0∨t.e1=1) (hN:t.n<9223372036854775808) (hD:t.d<9223372036854775808) (hD0:Cub.valQ false t.d 1≠0)
  (hq:Cub.valQ false t.n 1*(Cub.valQ false t.d 1)⁻¹=q0) (ha:IsR t.an t.ad q0) (hg:q0*Cub.pw (1 / 1000) t.e1=q2) (hf:IsR t.fn t.fd q2) :
  Calls Tryz.prog 102 #[.agg #[I (evT t 0),I (evT t 1),I (evT t 2),I (evT t 3),I (evT t 4),I (t.n:Int),I (t.d:Int)],.agg partsT] w fun r w'=>r=.returned (.agg #[.string t.fn,.string t.fd])∧Below w.heap.size w w':=by
 refine facT (evT t) t.n t.d partsT uNt uDt uNt (pDt t) (fNt t) (fDt t) (sT false t.n) ⟨#[49]⟩ (sT false t.d) ⟨#[49]⟩ w partsT_fac (fun W hb=>ratOf_pos t.n W hN (htab.later hb)) (fun W hb=>ratOf_pos t.d W hD (htab.later hb)) (fun W hb=>?_) (fun k hk W hb=>?_) (fun k hk W hb=>?_)
 ·exact ans_of (rquo_ok (sT false t.n) ⟨#[49]⟩ (sT false t.d) ⟨#[49]⟩ _ _ W (isR_whole t.n hN) (isR_whole t.d hD) hD0 (htab.later hb)) hq ha
 ·have ht:=htab.later hb
  have e1:=hE 1 (by decide)
  match k,hk with
  | 0,_=>exact pow_ones _ W (hE 0 (by decide)).1 (hE 0 (by decide)).2 ht
  | 1,_=>exact ans_of (rpow_ok _ _ (1 / 1000) t.e1 W isR_milli (by have:=e1.1;show -4096≤t.e1;have h:evT t 1=t.e1:=rfl;omega) (by have h:evT t 1=t.e1:=rfl;omega) (by decide +kernel) (isR_pd t.e1 h01).1 ht) rfl (isR_pd t.e1 h01)
  | 2,_=>exact pow_ones _ W (hE 2 (by decide)).1 (hE 2 (by decide)).2 ht
  | 3,_=>exact pow_ones _ W (hE 3 (by decide)).1 (hE 3 (by decide)).2 ht
  | 4,_=>exact pow_ones _ W (hE 4 (by decide)).1 (hE 4 (by decide)).2 ht
 ·have ht:=htab.later hb
  match k,hk with
  | 0,_=>exact ans_of (rmul_ok t.an t.ad ⟨#[49]⟩ ⟨#[49]⟩ q0 1 W ha isR_one ht) (Rat.mul_one q0) ha
  | 1,_=>exact ans_of (rmul_ok t.an t.ad ⟨#[49]⟩ (pdT t.e1) q0 _ W ha (isR_pd t.e1 h01) ht) hg hf
  | 2,_=>exact ans_of (rmul_ok t.fn t.fd ⟨#[49]⟩ ⟨#[49]⟩ q2 1 W hf isR_one ht) (Rat.mul_one q2) hf
  | 3,_=>exact ans_of (rmul_ok t.fn t.fd ⟨#[49]⟩ ⟨#[49]⟩ q2 1 W hf isR_one ht) (Rat.mul_one q2) hf
  | 4,_=>exact ans_of (rmul_ok t.fn t.fd ⟨#[49]⟩ ⟨#[49]⟩ q2 1 W hf isR_one ht) (Rat.mul_one q2) hf
def okN (t:Tu):Bool:=okD t && (List.range 5).all (fun k=>inB (evT t k)) && decide (t.e1=0∨t.e1=1) && decide (t.n<9223372036854775808) && decide (t.d<9223372036854775808)
theorem told_of (t:Tu) (q0 q2:Rat) (w:World) (htab:Tab w) (hok:okN t=true) (hD0:Cub.valQ false t.d 1≠0) (hq:Cub.valQ false t.n 1*(Cub.valQ false t.d 1)⁻¹=q0) (ha:IsR t.an t.ad q0) (hg:q0*Cub.pw (1 / 1000) t.e1=q2) (hf:IsR t.fn t.fd q2)
  (hcf:∀W,(callFunc t.f #[]).run Tryz.prog W=.ok (.enter t.f #[]) W) (hma:∀W,Calls Tryz.prog t.f #[] W fun r w'=>r=.returned (.agg #[I (evT t 0),I (evT t 1),I (evT t 2),I (evT t 3),I (evT t 4),I (t.n:Int),I (t.d:Int)])∧Below W.heap.size W w') :
  Calls Tryz.prog 36 #[.agg (rowA t),.agg partsT] w fun r w'=>r=.returned (.agg (rtT t))∧Below w.heap.size w w':=by
 simp only[okN,Bool.and_eq_true,List.all_eq_true,List.mem_range,inB,decide_eq_true_eq]at hok
 obtain⟨⟨⟨⟨o1,o2⟩,o3⟩,o4⟩,o5⟩:=hok
 exact toldT (evT t) (dvT t) t.n t.d t.f t.nm t.sy t.fn t.fd partsT w partsT_size hcf hma (fun W hb=>dim_of t W o1) (fun W hb=>fac_of t q0 q2 W (htab.later hb) (fun k hk=>o2 k hk) o3 o4 o5 hD0 hq ha hg hf) (fun W hb=>zero_of W (htab.later hb))
theorem told_tr:∀k,k<22→∀W,Tab W→Calls Tryz.prog 36 #[.agg (rowA (trt k)),.agg partsT] W fun r w'=>r=.returned (.agg (rtT (trt k)))∧Below W.heap.size W w'
 | 0,_=>fun W ht=>told_of (trt 0) (127 / 5000) (127 / 5000) W ht (by decide +kernel) (by decide +kernel) (by decide +kernel) (isR_lit2 _ _ 127 5000 _ (by decide +kernel) (by decide +kernel) (by decide +kernel) (by decide +kernel) (by decide +kernel) (by decide +kernel) (by decide +kernel) (by decide +kernel) (by decide +kernel)) (by decide +kernel) (isR_lit2 _ _ 127 5000 _ (by decide +kernel) (by decide +kernel) (by decide +kernel) (by decide +kernel) (by decide +kernel) (by decide +kernel) (by decide +kernel) (by decide +kernel) (by decide +kernel)) (fun _=>by kernel_rfl) (fun W=>inch_made W)
 | 1,_=>fun W ht=>told_of (trt 1) (381 / 1250) (381 / 1250) W ht (by decide +kernel) (by decide +kernel) (by decide +kernel) (isR_lit2 _ _ 381 1250 _ (by decide +kernel) (by decide +kernel) (by decide +kernel) (by decide +kernel) (by decide +kernel) (by decide +kernel) (by decide +kernel) (by decide +kernel) (by decide +kernel)) (by decide +kernel) (isR_lit2 _ _ 381 1250 _ (by decide +kernel) (by decide +kernel) (by decide +kernel) (by decide +kernel) (by decide +kernel) (by decide +kernel) (by decide +kernel) (by decide +kernel) (by decide +kernel)) (fun _=>by kernel_rfl) (fun W=>foot_made W)
 | 2,_=>fun W ht=>told_of (trt 2) (1143 / 625) (1143 / 625) W ht (by decide +kernel) (by decide +kernel) (by decide +kernel) (isR_lit2 _ _ 1143 625 _ (by decide +kernel) (by decide +kernel) (by decide +kernel) (by decide +kernel) (by decide +kernel) (by decide +kernel) (by decide +kernel) (by decide +kernel) (by decide +kernel)) (by decide +kernel) (isR_lit2 _ _ 1143 625 _ (by decide +kernel) (by decide +kernel) (by decide +kernel) (by decide +kernel) (by decide +kernel) (by decide +kernel) (by decide +kernel) (by decide +kernel) (by decide +kernel)) (fun _=>by kernel_rfl) (fun W=>fathom_made W)
 | 3,_=>fun W ht=>told_of (trt 3) (127 / 1250) (127 / 1250) W ht (by decide +kernel) (by decide +kernel) (by decide +kernel) (isR_lit2 _ _ 127 1250 _ (by decide +kernel) (by decide +kernel) (by decide +kernel) (by decide +kernel) (by decide +kernel) (by decide +kernel) (by decide +kernel) (by decide +kernel) (by decide +kernel)) (by decide +kernel) (isR_lit2 _ _ 127 1250 _ (by decide +kernel) (by decide +kernel) (by decide +kernel) (by decide +kernel) (by decide +kernel) (by decide +kernel) (by decide +kernel) (by decide +kernel) (by decide +kernel)) (fun _=>by kernel_rfl) (fun W=>hand_made W)
 | 4,_=>fun W ht=>told_of (trt 4) 1852 1852 W ht (by decide +kernel) (by decide +kernel) (by decide +kernel) (isR_lit2 _ _ 1852 1 _ (by decide +kernel) (by decide +kernel) (by decide +kernel) (by decide +kernel) (by decide +kernel) (by decide +kernel) (by decide +kernel) (by decide +kernel) (by decide +kernel)) (by decide +kernel) (isR_lit2 _ _ 1852 1 _ (by decide +kernel) (by decide +kernel) (by decide +kernel) (by decide +kernel) (by decide +kernel) (by decide +kernel) (by decide +kernel) (by decide +kernel) (by decide +kernel)) (fun _=>by kernel_rfl) (fun W=>nautical_made W)
 | 5,_=>fun W ht=>told_of (trt 5) (463 / 900) (463 / 900) W ht (by decide +kernel) (by decide +kernel) (by decide +kernel) (isR_lit2 _ _ 463 900 _ (by decide +kernel) (by decide +kernel) (by decide +kernel) (by decide +kernel) (by decide +kernel) (by decide +kernel) (by decide +kernel) (by decide +kernel) (by decide +kernel)) (by decide +kernel) (isR_lit2 _ _ 463 900 _ (by decide +kernel) (by decide +kernel) (by decide +kernel) (by decide +kernel) (by decide +kernel) (by decide +kernel) (by decide +kernel) (by decide +kernel) (by decide +kernel)) (fun _=>by kernel_rfl) (fun W=>knot_made W)
 | 6,_=>fun W ht=>told_of (trt 6) (1143 / 1250) (1143 / 1250) W ht (by decide +kernel) (by decide +kernel) (by decide +kernel) (isR_lit2 _ _ 1143 1250 _ (by decide +kernel) (by decide +kernel) (by decide +kernel) (by decide +kernel) (by decide +kernel) (by decide +kernel) (by decide +kernel) (by decide +kernel) (by decide +kernel)) (by decide +kernel) (isR_lit2 _ _ 1143 1250 _ (by decide +kernel) (by decide +kernel) (by decide +kernel) (by decide +kernel) (by decide +kernel) (by decide +kernel) (by decide +kernel) (by decide +kernel) (by decide +kernel)) (fun _=>by kernel_rfl) (fun W=>yard_made W)
 | 7,_=>fun W ht=>told_of (trt 7) (201168 / 125) (201168 / 125) W ht (by decide +kernel) (by decide +kernel) (by decide +kernel) (isR_lit2 _ _ 201168 125 _ (by decide +kernel) (by decide +kernel) (by decide +kernel) (by decide +kernel) (by decide +kernel) (by decide +kernel) (by decide +kernel) (by decide +kernel) (by decide +kernel)) (by decide +kernel) (isR_lit2 _ _ 201168 125 _ (by decide +kernel) (by decide +kernel) (by decide +kernel) (by decide +kernel) (by decide +kernel) (by decide +kernel) (by decide +kernel) (by decide +kernel) (by decide +kernel)) (fun _=>by kernel_rfl) (fun W=>mile_made W)
 | 8,_=>fun W ht=>told_of (trt 8) (316160658 / 78125) (316160658 / 78125) W ht (by decide +kernel) (by decide +kernel) (by decide +kernel) (isR_lit2 _ _ 316160658 78125 _ (by decide +kernel) (by decide +kernel) (by decide +kernel) (by decide +kernel) (by decide +kernel) (by decide +kernel) (by decide +kernel) (by decide +kernel) (by decide +kernel)) (by decide +kernel) (isR_lit2 _ _ 316160658 78125 _ (by decide +kernel) (by decide +kernel) (by decide +kernel) (by decide +kernel) (by decide +kernel) (by decide +kernel) (by decide +kernel) (by decide +kernel) (by decide +kernel)) (fun _=>by kernel_rfl) (fun W=>acre_made W)
 | 9,_=>fun W ht=>told_of (trt 9) 101325 101325 W ht (by decide +kernel) (by decide +kernel) (by decide +kernel) (isR_lit2 _ _ 101325 1 _ (by decide +kernel) (by decide +kernel) (by decide +kernel) (by decide +kernel) (by decide +kernel) (by decide +kernel) (by decide +kernel) (by decide +kernel) (by decide +kernel)) (by decide +kernel) (isR_lit2 _ _ 101325 1 _ (by decide +kernel) (by decide +kernel) (by decide +kernel) (by decide +kernel) (by decide +kernel) (by decide +kernel) (by decide +kernel) (by decide +kernel) (by decide +kernel)) (fun _=>by kernel_rfl) (fun W=>atmosphere_made W)
 | 10,_=>fun W ht=>told_of (trt 10) (523 / 125) (523 / 125) W ht (by decide +kernel) (by decide +kernel) (by decide +kernel) (isR_lit2 _ _ 523 125 _ (by decide +kernel) (by decide +kernel) (by decide +kernel) (by decide +kernel) (by decide +kernel) (by decide +kernel) (by decide +kernel) (by decide +kernel) (by decide +kernel)) (by decide +kernel) (isR_lit2 _ _ 523 125 _ (by decide +kernel) (by decide +kernel) (by decide +kernel) (by decide +kernel) (by decide +kernel) (by decide +kernel) (by decide +kernel) (by decide +kernel) (by decide +kernel)) (fun _=>by kernel_rfl) (fun W=>calorie_made W)
 | 11,_=>fun W ht=>told_of (trt 11) (473176473 / 125000000000) (473176473 / 125000000000) W ht (by decide +kernel) (by decide +kernel) (by decide +kernel) (isR_lit2 _ _ 473176473 125000000000 _ (by decide +kernel) (by decide +kernel) (by decide +kernel) (by decide +kernel) (by decide +kernel) (by decide +kernel) (by decide +kernel) (by decide +kernel) (by decide +kernel)) (by decide +kernel) (isR_lit2 _ _ 473176473 125000000000 _ (by decide +kernel) (by decide +kernel) (by decide +kernel) (by decide +kernel) (by decide +kernel) (by decide +kernel) (by decide +kernel) (by decide +kernel) (by decide +kernel)) (fun _=>by kernel_rfl) (fun W=>gallon_made W)
 | 12,_=>fun W ht=>told_of (trt 12) (473176473 / 1000000000000) (473176473 / 1000000000000) W ht (by decide +kernel) (by decide +kernel) (by decide +kernel) (isR_lit2 _ _ 473176473 1000000000000 _ (by decide +kernel) (by decide +kernel) (by decide +kernel) (by decide +kernel) (by decide +kernel) (by decide +kernel) (by decide +kernel) (by decide +kernel) (by decide +kernel)) (by decide +kernel) (isR_lit2 _ _ 473176473 1000000000000 _ (by decide +kernel) (by decide +kernel) (by decide +kernel) (by decide +kernel) (by decide +kernel) (by decide +kernel) (by decide +kernel) (by decide +kernel) (by decide +kernel)) (fun _=>by kernel_rfl) (fun W=>pint_made W)
 | 13,_=>fun W ht=>told_of (trt 13) (45359237 / 100000) (45359237 / 100000000) W ht (by decide +kernel) (by decide +kernel) (by decide +kernel) (isR_lit2 _ _ 45359237 100000 _ (by decide +kernel) (by decide +kernel) (by decide +kernel) (by decide +kernel) (by decide +kernel) (by decide +kernel) (by decide +kernel) (by decide +kernel) (by decide +kernel)) (by decide +kernel) (isR_lit2 _ _ 45359237 100000000 _ (by decide +kernel) (by decide +kernel) (by decide +kernel) (by decide +kernel) (by decide +kernel) (by decide +kernel) (by decide +kernel) (by decide +kernel) (by decide +kernel)) (fun _=>by kernel_rfl) (fun W=>pound_made W)
 | 14,_=>fun W ht=>told_of (trt 14) (6479891 / 100000000) (6479891 / 100000000000) W ht (by decide +kernel) (by decide +kernel) (by decide +kernel) (isR_lit2 _ _ 6479891 100000000 _ (by decide +kernel) (by decide +kernel) (by decide +kernel) (by decide +kernel) (by decide +kernel) (by decide +kernel) (by decide +kernel) (by decide +kernel) (by decide +kernel)) (by decide +kernel) (isR_lit2 _ _ 6479891 100000000000 _ (by decide +kernel) (by decide +kernel) (by decide +kernel) (by decide +kernel) (by decide +kernel) (by decide +kernel) (by decide +kernel) (by decide +kernel) (by decide +kernel)) (fun _=>by kernel_rfl) (fun W=>grain_made W)
 | 15,_=>fun W ht=>told_of (trt 15) (45359237 / 1600000) (45359237 / 1600000000) W ht (by decide +kernel) (by decide +kernel) (by decide +kernel) (isR_lit2 _ _ 45359237 1600000 _ (by decide +kernel) (by decide +kernel) (by decide +kernel) (by decide +kernel) (by decide +kernel) (by decide +kernel) (by decide +kernel) (by decide +kernel) (by decide +kernel)) (by decide +kernel) (isR_lit2 _ _ 45359237 1600000000 _ (by decide +kernel) (by decide +kernel) (by decide +kernel) (by decide +kernel) (by decide +kernel) (by decide +kernel) (by decide +kernel) (by decide +kernel) (by decide +kernel)) (fun _=>by kernel_rfl) (fun W=>ounce_made W)
 | 16,_=>fun W ht=>told_of (trt 16) (8896443230521 / 2000000000) (8896443230521 / 2000000000000) W ht (by decide +kernel) (by decide +kernel) (by decide +kernel) (isR_lit2 _ _ 8896443230521 2000000000 _ (by decide +kernel) (by decide +kernel) (by decide +kernel) (by decide +kernel) (by decide +kernel) (by decide +kernel) (by decide +kernel) (by decide +kernel) (by decide +kernel)) (by decide +kernel) (isR_lit2 _ _ 8896443230521 2000000000000 _ (by decide +kernel) (by decide +kernel) (by decide +kernel) (by decide +kernel) (by decide +kernel) (by decide +kernel) (by decide +kernel) (by decide +kernel) (by decide +kernel)) (fun _=>by kernel_rfl) (fun W=>poundforce_made W)
 | 17,_=>fun W ht=>told_of (trt 17) (37284993579113511 / 50000000000) (37284993579113511 / 50000000000000) W ht (by decide +kernel) (by decide +kernel) (by decide +kernel) (isR_lit2 _ _ 37284993579113511 50000000000 _ (by decide +kernel) (by decide +kernel) (by decide +kernel) (by decide +kernel) (by decide +kernel) (by decide +kernel) (by decide +kernel) (by decide +kernel) (by decide +kernel)) (by decide +kernel) (isR_lit2 _ _ 37284993579113511 50000000000000 _ (by decide +kernel) (by decide +kernel) (by decide +kernel) (by decide +kernel) (by decide +kernel) (by decide +kernel) (by decide +kernel) (by decide +kernel) (by decide +kernel)) (fun _=>by kernel_rfl) (fun W=>horsepower_made W)
 | 18,_=>fun W ht=>told_of (trt 18) (8896443230521 / 1290320) (8896443230521 / 1290320000) W ht (by decide +kernel) (by decide +kernel) (by decide +kernel) (isR_lit2 _ _ 8896443230521 1290320 _ (by decide +kernel) (by decide +kernel) (by decide +kernel) (by decide +kernel) (by decide +kernel) (by decide +kernel) (by decide +kernel) (by decide +kernel) (by decide +kernel)) (by decide +kernel) (isR_lit2 _ _ 8896443230521 1290320000 _ (by decide +kernel) (by decide +kernel) (by decide +kernel) (by decide +kernel) (by decide +kernel) (by decide +kernel) (by decide +kernel) (by decide +kernel) (by decide +kernel)) (fun _=>by kernel_rfl) (fun W=>psi_made W)
 | 19,_=>fun W ht=>told_of (trt 19) (317514659 / 50000) (317514659 / 50000000) W ht (by decide +kernel) (by decide +kernel) (by decide +kernel) (isR_lit2 _ _ 317514659 50000 _ (by decide +kernel) (by decide +kernel) (by decide +kernel) (by decide +kernel) (by decide +kernel) (by decide +kernel) (by decide +kernel) (by decide +kernel) (by decide +kernel)) (by decide +kernel) (isR_lit2 _ _ 317514659 50000000 _ (by decide +kernel) (by decide +kernel) (by decide +kernel) (by decide +kernel) (by decide +kernel) (by decide +kernel) (by decide +kernel) (by decide +kernel) (by decide +kernel)) (fun _=>by kernel_rfl) (fun W=>stone_made W)
 | 20,_=>fun W ht=>told_of (trt 20) (45359237 / 50) (45359237 / 50000) W ht (by decide +kernel) (by decide +kernel) (by decide +kernel) (isR_lit2 _ _ 45359237 50 _ (by decide +kernel) (by decide +kernel) (by decide +kernel) (by decide +kernel) (by decide +kernel) (by decide +kernel) (by decide +kernel) (by decide +kernel) (by decide +kernel)) (by decide +kernel) (isR_lit2 _ _ 45359237 50000 _ (by decide +kernel) (by decide +kernel) (by decide +kernel) (by decide +kernel) (by decide +kernel) (by decide +kernel) (by decide +kernel) (by decide +kernel) (by decide +kernel)) (fun _=>by kernel_rfl) (fun W=>ton_made W)
 | 21,_=>fun W ht=>told_of (trt 21) (20265 / 152) (20265 / 152) W ht (by decide +kernel) (by decide +kernel) (by decide +kernel) (isR_lit2 _ _ 20265 152 _ (by decide +kernel) (by decide +kernel) (by decide +kernel) (by decide +kernel) (by decide +kernel) (by decide +kernel) (by decide +kernel) (by decide +kernel) (by decide +kernel)) (by decide +kernel) (isR_lit2 _ _ 20265 152 _ (by decide +kernel) (by decide +kernel) (by decide +kernel) (by decide +kernel) (by decide +kernel) (by decide +kernel) (by decide +kernel) (by decide +kernel) (by decide +kernel)) (fun _=>by kernel_rfl) (fun W=>torr_made W)
 | _+22,h=>absurd h (by omega)
theorem rtT_size (k:Nat):(rtT (trt k)).size=15:=rfl
end Go.Proofs.YtamoadanapmmeaaGreatDoor.Tr

namespace Go.Proofs.YtamoadanapmmeaaGreatDoor.Tr
open Go.RowKit
structure R3 (W:World) (g k:Nat) (nm sy:ByteArray) (f:Nat):Prop where
 c0:W.cell? ⟨g,k*3,none⟩=some (.string nm)
 c1:W.cell? ⟨g,k*3+1,none⟩=some (.string sy)
 c2:W.cell? ⟨g,k*3+2,none⟩=some (.func (.func f) #[] #[])
theorem R3.later {W V:World} {B g k f:Nat} {nm sy:ByteArray} (h:R3 W g k nm sy f) (hb:Below B W V) (hg:g<B):R3 V g k nm sy f :=
 ⟨(hb.cell (p:=⟨g,k*3,none⟩) hg).trans h.c0,(hb.cell (p:=⟨g,k*3+1,none⟩) hg).trans h.c1,(hb.cell (p:=⟨g,k*3+2,none⟩) hg).trans h.c2⟩
def rows22:Array Value:=#[.string ⟨#[105,110,99,104]⟩,.string ⟨#[105,110,99,104]⟩,.func (.func 72) #[] #[],.string ⟨#[102,111,111,116]⟩,.string ⟨#[102,116]⟩,.func (.func 73) #[] #[],.string ⟨#[102,97,116,104,111,109]⟩,.string ⟨#[102,116,109]⟩,.func (.func 74) #[] #[],.string ⟨#[104,97,110,100]⟩,.string ⟨#[104,104]⟩,.func (.func 75) #[] #[],.string ⟨#[110,97,117,116,105,99,97,108]⟩,.string ⟨#[110,109,105]⟩,.func (.func 76) #[] #[],.string ⟨#[107,110,111,116]⟩,.string ⟨#[107,110]⟩,.func (.func 77) #[] #[],.string ⟨#[121,97,114,100]⟩,.string ⟨#[121,100]⟩,.func (.func 78) #[] #[],.string ⟨#[109,105,108,101]⟩,.string ⟨#[109,105]⟩,.func (.func 79) #[] #[],.string ⟨#[97,99,114,101]⟩,.string ⟨#[97,99]⟩,.func (.func 80) #[] #[],.string ⟨#[97,116,109,111,115,112,104,101,114,101]⟩,.string ⟨#[97,116,109]⟩,.func (.func 81) #[] #[],.string ⟨#[99,97,108,111,114,105,101]⟩,.string ⟨#[99,97,108]⟩,.func (.func 82) #[] #[],.string ⟨#[103,97,108,108,111,110]⟩,.string ⟨#[103,97,108]⟩,.func (.func 83) #[] #[],.string ⟨#[112,105,110,116]⟩,.string ⟨#[112,116]⟩,.func (.func 84) #[] #[],.string ⟨#[112,111,117,110,100]⟩,.string ⟨#[108,98]⟩,.func (.func 85) #[] #[],.string ⟨#[103,114,97,105,110]⟩,.string ⟨#[103,114]⟩,.func (.func 86) #[] #[],.string ⟨#[111,117,110,99,101]⟩,.string ⟨#[111,122]⟩,.func (.func 87) #[] #[],.string ⟨#[112,111,117,110,100,102,111,114,99,101]⟩,.string ⟨#[108,98,102]⟩,.func (.func 88) #[] #[],.string ⟨#[104,111,114,115,101,112,111,119,101,114]⟩,.string ⟨#[104,112]⟩,.func (.func 89) #[] #[],.string ⟨#[112,115,105]⟩,.string ⟨#[112,115,105]⟩,.func (.func 90) #[] #[],.string ⟨#[115,116,111,110,101]⟩,.string ⟨#[115,116]⟩,.func (.func 91) #[] #[],.string ⟨#[116,111,110]⟩,.string ⟨#[116,110]⟩,.func (.func 92) #[] #[],.string ⟨#[116,111,114,114]⟩,.string ⟨#[84,111,114,114]⟩,.func (.func 93) #[] #[]]
set_option maxRecDepth 100000 in
set_option maxHeartbeats 4000000 in
theorem rowsT (w:World):Calls Tryz.prog 34 #[] w fun r w'=>r=.returned (.slice (some ⟨w.heap.size,0,none⟩) 22 22)∧w'=w.alloc (.cells rows22 58):=by
 go_enter Tryz.func34,Tryz.ntmps34
 go_wp2
 go_ret
 exact⟨rfl,rfl⟩
theorem rows22_at (W:World):∀k,k<22→R3 (W.alloc (.cells rows22 58)) W.heap.size k (trt k).nm (trt k).sy (trt k).f
 | 0,_=>⟨(OwnU.new W rows22 58).ub.c 0 _ rfl,(OwnU.new W rows22 58).ub.c 1 _ rfl,(OwnU.new W rows22 58).ub.c 2 _ rfl⟩
 | 1,_=>⟨(OwnU.new W rows22 58).ub.c 3 _ rfl,(OwnU.new W rows22 58).ub.c 4 _ rfl,(OwnU.new W rows22 58).ub.c 5 _ rfl⟩
 | 2,_=>⟨(OwnU.new W rows22 58).ub.c 6 _ rfl,(OwnU.new W rows22 58).ub.c 7 _ rfl,(OwnU.new W rows22 58).ub.c 8 _ rfl⟩
 | 3,_=>⟨(OwnU.new W rows22 58).ub.c 9 _ rfl,(OwnU.new W rows22 58).ub.c 10 _ rfl,(OwnU.new W rows22 58).ub.c 11 _ rfl⟩
 | 4,_=>⟨(OwnU.new W rows22 58).ub.c 12 _ rfl,(OwnU.new W rows22 58).ub.c 13 _ rfl,(OwnU.new W rows22 58).ub.c 14 _ rfl⟩
 | 5,_=>⟨(OwnU.new W rows22 58).ub.c 15 _ rfl,(OwnU.new W rows22 58).ub.c 16 _ rfl,(OwnU.new W rows22 58).ub.c 17 _ rfl⟩
 | 6,_=>⟨(OwnU.new W rows22 58).ub.c 18 _ rfl,(OwnU.new W rows22 58).ub.c 19 _ rfl,(OwnU.new W rows22 58).ub.c 20 _ rfl⟩
 | 7,_=>⟨(OwnU.new W rows22 58).ub.c 21 _ rfl,(OwnU.new W rows22 58).ub.c 22 _ rfl,(OwnU.new W rows22 58).ub.c 23 _ rfl⟩
 | 8,_=>⟨(OwnU.new W rows22 58).ub.c 24 _ rfl,(OwnU.new W rows22 58).ub.c 25 _ rfl,(OwnU.new W rows22 58).ub.c 26 _ rfl⟩
 | 9,_=>⟨(OwnU.new W rows22 58).ub.c 27 _ rfl,(OwnU.new W rows22 58).ub.c 28 _ rfl,(OwnU.new W rows22 58).ub.c 29 _ rfl⟩
 | 10,_=>⟨(OwnU.new W rows22 58).ub.c 30 _ rfl,(OwnU.new W rows22 58).ub.c 31 _ rfl,(OwnU.new W rows22 58).ub.c 32 _ rfl⟩
 | 11,_=>⟨(OwnU.new W rows22 58).ub.c 33 _ rfl,(OwnU.new W rows22 58).ub.c 34 _ rfl,(OwnU.new W rows22 58).ub.c 35 _ rfl⟩
 | 12,_=>⟨(OwnU.new W rows22 58).ub.c 36 _ rfl,(OwnU.new W rows22 58).ub.c 37 _ rfl,(OwnU.new W rows22 58).ub.c 38 _ rfl⟩
 | 13,_=>⟨(OwnU.new W rows22 58).ub.c 39 _ rfl,(OwnU.new W rows22 58).ub.c 40 _ rfl,(OwnU.new W rows22 58).ub.c 41 _ rfl⟩
 | 14,_=>⟨(OwnU.new W rows22 58).ub.c 42 _ rfl,(OwnU.new W rows22 58).ub.c 43 _ rfl,(OwnU.new W rows22 58).ub.c 44 _ rfl⟩
 | 15,_=>⟨(OwnU.new W rows22 58).ub.c 45 _ rfl,(OwnU.new W rows22 58).ub.c 46 _ rfl,(OwnU.new W rows22 58).ub.c 47 _ rfl⟩
 | 16,_=>⟨(OwnU.new W rows22 58).ub.c 48 _ rfl,(OwnU.new W rows22 58).ub.c 49 _ rfl,(OwnU.new W rows22 58).ub.c 50 _ rfl⟩
 | 17,_=>⟨(OwnU.new W rows22 58).ub.c 51 _ rfl,(OwnU.new W rows22 58).ub.c 52 _ rfl,(OwnU.new W rows22 58).ub.c 53 _ rfl⟩
 | 18,_=>⟨(OwnU.new W rows22 58).ub.c 54 _ rfl,(OwnU.new W rows22 58).ub.c 55 _ rfl,(OwnU.new W rows22 58).ub.c 56 _ rfl⟩
 | 19,_=>⟨(OwnU.new W rows22 58).ub.c 57 _ rfl,(OwnU.new W rows22 58).ub.c 58 _ rfl,(OwnU.new W rows22 58).ub.c 59 _ rfl⟩
 | 20,_=>⟨(OwnU.new W rows22 58).ub.c 60 _ rfl,(OwnU.new W rows22 58).ub.c 61 _ rfl,(OwnU.new W rows22 58).ub.c 62 _ rfl⟩
 | 21,_=>⟨(OwnU.new W rows22 58).ub.c 63 _ rfl,(OwnU.new W rows22 58).ub.c 64 _ rfl,(OwnU.new W rows22 58).ub.c 65 _ rfl⟩
 | n+22,h=>absurd h (by omega)
def IsF22 (p:Nat→Bool) (j:Int):Prop:=(∃k:Nat,k<22∧j=(k:Int)∧p k=true∧∀i,i<k→p i=false)∨(j=-1∧∀i,i<22→p i=false)
theorem first22 {p:Nat→Bool} {i j:Int} (h1:IsF22 p i) (h2:IsF22 p j):i=j:=by
 rcases h1 with ⟨a,ha,rfl,pa,qa⟩|⟨rfl,na⟩<;>rcases h2 with ⟨c,hc,rfl,pc,qc⟩|⟨rfl,nc⟩
 ·rcases Nat.lt_trichotomy a c with h|h|h
  ·rw[qc a h]at pa;cases pa
  ·rw[h]
  ·rw[qa c h]at pc;cases pc
 ·rw[nc a ha]at pa;cases pa
 ·rw[na c hc]at pc;cases pc
 ·rfl
def FindT (p:Nat→Bool) (v:Value):Prop:=(∃k:Nat,k<22∧IsF22 p (k:Int)∧v=.tuple #[.agg (rtT (trt k)),.bool true])∨(IsF22 p (-1)∧v=.tuple #[.agg z15,.bool false])
theorem FindT.det {p:Nat→Bool} {v u:Value} (h1:FindT p v) (h2:FindT p u):v=u:=by
 rcases h1 with ⟨a,ha,fa,rfl⟩|⟨fa,rfl⟩<;>rcases h2 with ⟨c,hc,fc,rfl⟩|⟨fc,rfl⟩
 ·have:=first22 fa fc
  have e:a=c:=by omega
  rw[e]
 ·have:=first22 fa fc;omega
 ·have:=first22 fa fc;omega
 ·rfl
end Go.Proofs.YtamoadanapmmeaaGreatDoor.Tr

namespace Go.Proofs.YtamoadanapmmeaaGreatDoor.Tr
open Go.RowKit
set_option maxRecDepth 100000 in
set_option maxHeartbeats 2000000 in
theorem refUnit (nm sy fn fd:ByteArray) (d0 d1 d2 d3 d4 d5 d6 d7:Int) (w:World):Calls Tryz.prog 38 #[.string nm,.string sy,.agg #[I d0,I d1,I d2,I d3,I d4,I d5,I d6,I d7],.string fn,.string fd] w fun r w'=>r=.returned (.agg #[.string nm,.string sy,I d0,I d1,I d2,I d3,I d4,I d5,I d6,I d7,.string fn,.string fd,.string ⟨#[48]⟩,.string ⟨#[49]⟩,I 0])∧Below w.heap.size w w':=by
 obtain⟨V,hV⟩:∃V,V=(w.alloc (.cells #[I d0,I d1,I d2,I d3,I d4,I d5,I d6,I d7] 26)).alloc (.cells z15 30):=⟨_,rfl⟩
 have HB:Hid (Below w.heap.size w V):=by rw[hV];exact((Below.refl _ _).alloc (Nat.le_refl _) _).alloc (by simp) _
 have HA:Hid (OwnU V w.heap.size 26 #[I d0,I d1,I d2,I d3,I d4,I d5,I d6,I d7]):=by rw[hV];exact(OwnU.new _ _ _).alloc _
 have HR:Hid (OwnU V (w.heap.size+1) 30 z15):=by rw[hV];have h:=OwnU.new (w.alloc (.cells #[I d0,I d1,I d2,I d3,I d4,I d5,I d6,I d7] 26)) z15 30;rw[Dm.size_alloc]at h;exact h
 have HV:=hide hV
 clear hV
 go_enter Tryz.func38,Tryz.ntmps38
 go_upto_region 1 with fail
 rw[←un HV]
 clear HV
 go_wp2_with (first
  | (refine wpList_load_row rfl 26 (.tmp 7) rfl w.heap.size rfl 26 #[I d0,I d1,I d2,I d3,I d4,I d5,I d6,I d7] (0,0) _ (un HA) Tryz.underlying26 rfl (by kernel_rfl) ?_)
  | (refine storeT 30 15 info27 rfl (.tmp 10) (.tmp 18) rfl (w.heap.size+1) z15 #[.string nm,.string sy,I d0,I d1,I d2,I d3,I d4,I d5,I d6,I d7,.string fn,.string fd,.string ⟨#[48]⟩,.string ⟨#[49]⟩,I 0] rfl rfl rfl rfl (un HR) (by kernel_rfl) ?_))
 exact bodyPost_ret (v:=.agg #[.string nm,.string sy,I d0,I d1,I d2,I d3,I d4,I d5,I d6,I d7,.string fn,.string fd,.string ⟨#[48]⟩,.string ⟨#[49]⟩,I 0]) (res30 Tryz.results38 _ _ (w.heap.size+1) _ rfl rfl ((un HR).setRow _)) rfl ⟨rfl,below_setRow (un HB) (by omega) _⟩
def uAllT:Array Value:=((List.range 22).flatMap fun k=>(rtT (trt k)).toList).toArray
theorem info30r:(Tryz.prog.info? 30).map (fun i=>(i.zero,i.size,i.bytes))=some (some (.agg z15),15,168):=by kernel_rfl
theorem under22r:Tryz.prog.underlying 22=some (.slice 30):=by kernel_rfl
set_option maxRecDepth 100000 in
set_option maxHeartbeats 8000000 in
theorem refUnitsT (w:World):Calls Tryz.prog 13 #[] w fun r w'=>∃W,r=.returned (.slice (some ⟨W.heap.size,0,none⟩) 22 22)∧w'=W.alloc (.cells uAllT 30)∧Below w.heap.size w W:=by
 obtain⟨i0,hi,hz0,hz1,hz2⟩:=info_parts info30r
 have HI0:=hide hi;have HZ0:=hide hz0;have HZ1:=hide hz1
 have HB:Hid (Below w.heap.size w w):=Below.refl _ _
 clear hi hz0 hz1 hz2
 go_enter Tryz.func13,Tryz.ntmps13
 go_wp2_with (first
  | (go_at_call 38;go_must(refine(refUnit _ _ _ _ _ _ _ _ _ _ _ _ _).mono ?_;rintro e W1 ⟨rfl,hb⟩;have HBn:Hid (Below w.heap.size w W1):=(un HB).trans (hb.mono (un HB).size);clear hb HB;have HB:=HBn;clear HBn))
  | (refine wpList_buildSlice rfl 22 30 22 _ rfl uAllT i0 (.agg z15) under22r (un HI0) (un HZ0) (by rw[un HZ1];decide) (by rw[un HZ1];decide) (by rw[un HZ1];kernel_rfl) ?_))
 go_ret
 exact⟨W1,rfl,rfl,un HB⟩
theorem uAllT_ex:∀k,k<22→uAllT.extract (k*15) (k*15+15)=rtT (trt k)
 | 0,_=>by kernel_rfl
 | 1,_=>by kernel_rfl
 | 2,_=>by kernel_rfl
 | 3,_=>by kernel_rfl
 | 4,_=>by kernel_rfl
 | 5,_=>by kernel_rfl
 | 6,_=>by kernel_rfl
 | 7,_=>by kernel_rfl
 | 8,_=>by kernel_rfl
 | 9,_=>by kernel_rfl
 | 10,_=>by kernel_rfl
 | 11,_=>by kernel_rfl
 | 12,_=>by kernel_rfl
 | 13,_=>by kernel_rfl
 | 14,_=>by kernel_rfl
 | 15,_=>by kernel_rfl
 | 16,_=>by kernel_rfl
 | 17,_=>by kernel_rfl
 | 18,_=>by kernel_rfl
 | 19,_=>by kernel_rfl
 | 20,_=>by kernel_rfl
 | 21,_=>by kernel_rfl
 | _+22,h=>absurd h (by omega)
theorem uAllT_size:uAllT.size=330:=by kernel_rfl
theorem uAllT_row (k:Nat) (hk:k<22) (i:Nat) (v:Value) (h:(rtT (trt k))[i]?=some v):uAllT[k*15+i]?=some v:=by
 have hi:i<15:=by have:=(Array.getElem?_eq_some_iff.1 h).1;rw[rtT_size]at this;exact this
 rw[←uAllT_ex k hk,Array.getElem?_extract,if_pos (by rw[uAllT_size];omega)]at h
 exact h
def UR (W:World) (g k:Nat):Prop:=∀i v,(rtT (trt k))[i]?=some v→W.cell? ⟨g,k*15+i,none⟩=some v
theorem UR.later {W V:World} {B g k:Nat} (h:UR W g k) (hb:Below B W V) (hg:g<B):UR V g k:=fun i v e=>(hb.cell (p:=⟨g,k*15+i,none⟩) hg).trans (h i v e)
theorem uAllT_at (W:World) (k:Nat) (hk:k<22):UR (W.alloc (.cells uAllT 30)) W.heap.size k:=fun i v e=>(OwnU.new W uAllT 30).ub.c _ _ (uAllT_row k hk i v e)
end Go.Proofs.YtamoadanapmmeaaGreatDoor.Tr

namespace Go.Proofs.YtamoadanapmmeaaGreatDoor
open Go.RowKit
set_option maxRecDepth 100000 in
set_option maxHeartbeats 4000000 in
theorem ratSign_ok (n d:ByteArray) (x:Rat) (sg:Int) (hsg:Cub.cmpQ x 0=sg) (w:World) (hx:IsR n d x):Calls Tryz.prog 206 #[.agg #[.string n,.string d]] w fun r w'=>r=.returned (.tuple #[I sg,I 0])∧Below w.heap.size w w':=by
 obtain⟨V,hV⟩:∃V,V=w.alloc (.cells #[.string n,.string d] 28):=⟨_,rfl⟩
 have HN:Hid (T2 V w.heap.size (.string n) (.string d)):=by rw[hV];exact⟨by simp[go_sem],by simp[go_sem],by simp[go_sem],by simp[go_sem]⟩
 have HB:Hid (Below w.heap.size w V):=by rw[hV];exact(Below.refl _ _).alloc (Nat.le_refl _) _
 have HV:=hide hV
 have HRD:=hide (fun W=>qread n d x W hx)
 have HSG:=hide hsg
 clear hV hx hsg
 go_enter Tryz.func206,Tryz.ntmps206
 go_upto_region 1 with fail
 rw[←un HV]
 clear HV
 have t0:=(un HN).c0;have t1:=(un HN).c1
 go_upto_region 2 with (go_at_call 118;go_must(refine(un HRD _).mono ?_;rintro e w1 ⟨v1,rfl,hv1,hb1⟩;obtain⟨bz,az,lz,cz,dz,mz,ez,rfl⟩:=hv1.form;have HZ1:=hide hv1;have HB1:=hide ((un HB).trans (hb1.mono (un HB).size));clear hv1 hb1 t0 t1))
 have hal:Below w1.heap.size w1 (w1.alloc (.cells #[.bool bz,.slice az lz cz,.slice dz mz ez] 82)):=(Below.refl _ _).alloc (Nat.le_refl _) _
 have HX:Hid (OwnU (w1.alloc (.cells #[.bool bz,.slice az lz cz,.slice dz mz ez] 82)) w1.heap.size 82 #[.bool bz,.slice az lz cz,.slice dz mz ez]):=OwnU.new _ _ _
 have HZ2:=hide ((un HZ1).later hal);have HB2:=hide ((un HB1).trans (hal.mono (un HB1).size))
 clear hal HZ1 HB1
 generalize w1.alloc (.cells #[.bool bz,.slice az lz cz,.slice dz mz ez] 82)=V2 at *
 generalize w1.heap.size=g4 at *
 have z0:V2.cell? ⟨g4,0,none⟩=some (.bool bz):=(un HX).ub.c 0 _ rfl
 have z1:V2.cell? ⟨g4,1,none⟩=some (.slice az lz cz):=(un HX).ub.c 1 _ rfl
 have z2:V2.cell? ⟨g4,2,none⟩=some (.slice dz mz ez):=(un HX).ub.c 2 _ rfl
 have HSI:=hide (qsign _ _ _ V2 (un HZ2))
 rw[un HSG]at HSI
 go_wp2_with (go_at_call 68;go_must(refine(un HSI).mono ?_;rintro e w3 ⟨rfl,hb3⟩;have HB3:=hide ((un HB2).trans (hb3.mono (un HB2).size));clear hb3))
 go_ret2
 exact⟨rfl,un HB3⟩
set_option maxRecDepth 100000 in
set_option maxHeartbeats 4000000 in
theorem ratRight_ok (n d:ByteArray) (x:Rat) (w:World) (hx:IsR n d x):Calls Tryz.prog 172 #[.agg #[.string n,.string d]] w fun r w'=>r=.returned (.bool true)∧Below w.heap.size w w':=by
 obtain⟨V,hV⟩:∃V,V=w.alloc (.cells #[.string n,.string d] 28):=⟨_,rfl⟩
 have HN:Hid (T2 V w.heap.size (.string n) (.string d)):=by rw[hV];exact⟨by simp[go_sem],by simp[go_sem],by simp[go_sem],by simp[go_sem]⟩
 have HB:Hid (Below w.heap.size w V):=by rw[hV];exact(Below.refl _ _).alloc (Nat.le_refl _) _
 have HV:=hide hV
 have HRD:=hide (fun W=>qread n d x W hx)
 skip
 clear hV hx
 go_enter Tryz.func172,Tryz.ntmps172
 go_upto_region 1 with fail
 rw[←un HV]
 clear HV
 have t0:=(un HN).c0;have t1:=(un HN).c1
 go_upto_region 2 with (go_at_call 118;go_must(refine(un HRD _).mono ?_;rintro e w1 ⟨v1,rfl,hv1,hb1⟩;obtain⟨bz,az,lz,cz,dz,mz,ez,rfl⟩:=hv1.form;have HZ1:=hide hv1;have HB1:=hide ((un HB).trans (hb1.mono (un HB).size));clear hv1 hb1 t0 t1))
 go_wp2_with fail
 go_ret
 exact⟨rfl,(un HB1).alloc (un HB1).size _⟩
set_option maxRecDepth 100000 in
set_option maxHeartbeats 2000000 in
theorem closed_any (g:Nat) (w:World) (h:w.cell? ⟨g,3,none⟩=some (.bool false)):Calls Tryz.prog 168 #[.pointer (some ⟨g,0,none⟩)] w fun r w'=>r=.returned (I 0)∧w'=w:=by
 go_enter Tryz.func168,Tryz.ntmps168
 go_wp2_with fail
 go_ret
 exact⟨rfl,rfl⟩
set_option maxRecDepth 100000 in
set_option maxHeartbeats 2000000 in
theorem room_any (n:Int) (w:World) (h:n<512):Calls Tryz.prog 98 #[I n,I 512] w fun r w'=>r=.returned (I 0)∧w'=w:=by
 have h1:¬(512:Int)≤n:=by omega
 go_enter Tryz.func98,Tryz.ntmps98
 go_wp2_with fail
 go_ret
 exact⟨rfl,rfl⟩
set_option maxRecDepth 100000 in
set_option maxHeartbeats 2000000 in
theorem above_any (n d:ByteArray) (x:Rat) (w:World) (hx:IsR n d x) (h0:Cub.cmpQ x 0=1):Calls Tryz.prog 171 #[.agg #[.string n,.string d]] w fun r w'=>r=.returned (.bool true)∧Below w.heap.size w w':=by
 have HS:Hid (∀W,Calls Tryz.prog 206 #[.agg #[.string n,.string d]] W fun r w'=>r=.returned (.tuple #[I 1,I 0])∧Below W.heap.size W w'):=fun W=>ratSign_ok n d x 1 h0 W hx
 clear hx h0
 go_enter Tryz.func171,Tryz.ntmps171
 go_wp2_with (go_at_call 206;go_must(refine(un HS _).mono ?_;rintro e w1 ⟨rfl,hb⟩;have HB:=hide hb;clear hb))
 go_ret
 exact⟨rfl,((Below.refl _ _).alloc (Nat.le_refl _) _).trans ((un HB).mono (by simp))⟩
end Go.Proofs.YtamoadanapmmeaaGreatDoor

namespace Go.Proofs.YtamoadanapmmeaaGreatDoor.Nm
open Go.RowKit
theorem hide {p:Prop} (h:p):Hid p:=h
theorem un {p:Prop} (h:Hid p):p:=h
end Go.Proofs.YtamoadanapmmeaaGreatDoor.Nm

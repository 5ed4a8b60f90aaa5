/- The units of old by their words: rows (34), the closure (40), the index (39), Find (14). -/
import Derived.Test.YtamoadanapmmeaaGreatDoorLimb3
import Derived.Test.YtamoadanapmmeaaGreatDoorTr8
namespace Go.Proofs.YtamoadanapmmeaaGreatDoor.Tr
open Go.RowKit
def rtT (t:Tu):Array Value:=#[.string t.nm,.string t.sy,I (dvT t 0),I (dvT t 1),I (dvT t 2),I (dvT t 3),I (dvT t 4),I (dvT t 5),I (dvT t 6),I (dvT t 7),.string t.fn,.string t.fd,.string ⟨#[48]⟩,.string ⟨#[49]⟩,I 0]
def rowA (t:Tu):Array Value:=#[.string t.nm,.string t.sy,.func (.func t.f) #[] #[]]
theorem dim_of (t:Tu) (w:World) (hok:okD t=true):Calls Tryz.prog 101 #[.agg #[I (evT t 0),I (evT t 1),I (evT t 2),I (evT t 3),I (evT t 4),I (t.n:Int),I (t.d:Int)],.agg partsT] w fun r w'=>r=.returned (.agg #[I (dvT t 0),I (dvT t 1),I (dvT t 2),I (dvT t 3),I (dvT t 4),I (dvT t 5),I (dvT t 6),I (dvT t 7)])∧Below w.heap.size w w':=by
 obtain⟨h1,h2⟩:=okD_at hok
 have h:=dimT (evT t) t.n t.d partsT puD (fun k j=>puD k j*evT t k) (prT t) w partsT_dim (fun k hk W=>pow_two (puD k) (evT t k) W (puD_le k hk) (fun j hj=>(h1 k hk j hj).2.1)) (fun k hk b W ho=>mul_two (prT t k) (fun j=>puD k j*evT t k) (prT t (k+1)) b W (fun j hj=>(h1 k hk j hj).1) (fun j hj=>(h1 k hk j hj).2.1) (fun j hj=>⟨(h1 k hk j hj).2.2.1,(h1 k hk j hj).2.2.2,rfl⟩) ho) rfl
 rw[h2 0 (by decide),h2 1 (by decide),h2 2 (by decide),h2 3 (by decide),h2 4 (by decide),h2 5 (by decide),h2 6 (by decide),h2 7 (by decide)]at h
 exact h
def pdT (e:Int):ByteArray:=if e=1 then uDt 1 else⟨#[49]⟩
theorem isR_pd (e:Int) (h:e=0∨e=1):IsR ⟨#[49]⟩ (pdT e) (Cub.pw (1 / 1000) e):=by
 rcases h with rfl|rfl
 ·rw[show Cub.pw (1 / 1000) 0=1 from by decide +kernel];exact isR_one
 ·rw[show Cub.pw (1 / 1000) 1=1 / 1000 from by decide +kernel];exact isR_milli
def pDt (t:Tu):Nat→ByteArray
 | 1=>pdT t.e1
 | _=>⟨#[49]⟩
def fNt (t:Tu):Nat→ByteArray
 | 0=>t.an
 | 1=>t.an
 | _=>t.fn
def fDt (t:Tu):Nat→ByteArray
 | 0=>t.ad
 | 1=>t.ad
 | _=>t.fd
theorem fac_of (t:Tu) (q0 q2:Rat) (w:World) (htab:Tab w) (hE:∀k,k<5→-99≤evT t k∧evT t k≤99) (h01:t.e1=0∨t.e1=1) (hN:t.n<9223372036854775808) (hD:t.d<9223372036854775808) (hD0:Cub.valQ false t.d 1≠0)
  (hq:Cub.valQ false t.n 1*(Cub.valQ false t.d 1)⁻¹=q0) (ha:IsR t.an t.ad q0) (hg:q0*Cub.pw (1 / 1000) t.e1=q2) (hf:IsR t.fn t.fd q2) :
  Calls Tryz.prog 102 #[.agg #[I (evT t 0),I (evT t 1),I (evT t 2),I (evT t 3),I (evT t 4),I (t.n:Int),I (t.d:Int)],.agg partsT] w fun r w'=>r=.returned (.agg #[.string t.fn,.string t.fd])∧Below w.heap.size w w':=by
 refine facT (evT t) t.n t.d partsT uNt uDt uNt (pDt t) (fNt t) (fDt t) (sT false t.n) ⟨#[49]⟩ (sT false t.d) ⟨#[49]⟩ w partsT_fac (fun W hb=>ratOf_pos t.n W hN (htab.later hb)) (fun W hb=>ratOf_pos t.d W hD (htab.later hb)) (fun W hb=>?_) (fun k hk W hb=>?_) (fun k hk W hb=>?_)
 ·exact ans_of (rquo_ok (sT false t.n) ⟨#[49]⟩ (sT false t.d) ⟨#[49]⟩ _ _ W (isR_whole t.n hN) (isR_whole t.d hD) hD0 (htab.later hb)) hq ha
 ·have ht:=htab.later hb
  have e1:=hE 1 (by decide)
  match k,hk with
  | 0,_=>exact pow_ones _ W (hE 0 (by decide)).1 (hE 0 (by decide)).2 ht
  | 1,_=>exact ans_of (rpow_ok _ _ (1 / 1000) t.e1 W isR_milli (by have:=e1.1;show -4096≤t.e1;have h:evT t 1=t.e1:=rfl;omega) (by have h:evT t 1=t.e1:=rfl;omega) (by decide +kernel) (isR_pd t.e1 h01).1 ht) rfl (isR_pd t.e1 h01)
  | 2,_=>exact pow_ones _ W (hE 2 (by decide)).1 (hE 2 (by decide)).2 ht
  | 3,_=>exact pow_ones _ W (hE 3 (by decide)).1 (hE 3 (by decide)).2 ht
  | 4,_=>exact pow_ones _ W (hE 4 (by decide)).1 (hE 4 (by decide)).2 ht
 ·have ht:=htab.later hb
  match k,hk with
  | 0,_=>exact ans_of (rmul_ok t.an t.ad ⟨#[49]⟩ ⟨#[49]⟩ q0 1 W ha isR_one ht) (Rat.mul_one q0) ha
  | 1,_=>exact ans_of (rmul_ok t.an t.ad ⟨#[49]⟩ (pdT t.e1) q0 _ W ha (isR_pd t.e1 h01) ht) hg hf
  | 2,_=>exact ans_of (rmul_ok t.fn t.fd ⟨#[49]⟩ ⟨#[49]⟩ q2 1 W hf isR_one ht) (Rat.mul_one q2) hf
  | 3,_=>exact ans_of (rmul_ok t.fn t.fd ⟨#[49]⟩ ⟨#[49]⟩ q2 1 W hf isR_one ht) (Rat.mul_one q2) hf
  | 4,_=>exact ans_of (rmul_ok t.fn t.fd ⟨#[49]⟩ ⟨#[49]⟩ q2 1 W hf isR_one ht) (Rat.mul_one q2) hf
def okN (t:Tu):Bool:=okD t && (List.range 5).all (fun k=>inB (evT t k)) && decide (t.e1=0∨t.e1=1) && decide (t.n<9223372036854775808) && decide (t.d<9223372036854775808)
theorem told_of (t:Tu) (q0 q2:Rat) (w:World) (htab:Tab w) (hok:okN t=true) (hD0:Cub.valQ false t.d 1≠0) (hq:Cub.valQ false t.n 1*(Cub.valQ false t.d 1)⁻¹=q0) (ha:IsR t.an t.ad q0) (hg:q0*Cub.pw (1 / 1000) t.e1=q2) (hf:IsR t.fn t.fd q2)
  (hcf:∀W,(callFunc t.f #[]).run Tryz.prog W=.ok (.enter t.f #[]) W) (hma:∀W,Calls Tryz.prog t.f #[] W fun r w'=>r=.returned (.agg #[I (evT t 0),I (evT t 1),I (evT t 2),I (evT t 3),I (evT t 4),I (t.n:Int),I (t.d:Int)])∧Below W.heap.size W w') :
  Calls Tryz.prog 36 #[.agg (rowA t),.agg partsT] w fun r w'=>r=.returned (.agg (rtT t))∧Below w.heap.size w w':=by
 simp only[okN,Bool.and_eq_true,List.all_eq_true,List.mem_range,inB,decide_eq_true_eq]at hok
 obtain⟨⟨⟨⟨o1,o2⟩,o3⟩,o4⟩,o5⟩:=hok
 exact toldT (evT t) (dvT t) t.n t.d t.f t.nm t.sy t.fn t.fd partsT w partsT_size hcf hma (fun W hb=>dim_of t W o1) (fun W hb=>fac_of t q0 q2 W (htab.later hb) (fun k hk=>o2 k hk) o3 o4 o5 hD0 hq ha hg hf) (fun W hb=>zero_of W (htab.later hb))
theorem told_tr:∀k,k<22→∀W,Tab W→Calls Tryz.prog 36 #[.agg (rowA (trt k)),.agg partsT] W fun r w'=>r=.returned (.agg (rtT (trt k)))∧Below W.heap.size W w'
 | 0,_=>fun W ht=>told_of (trt 0) (127 / 5000) (127 / 5000) W ht (by decide +kernel) (by decide +kernel) (by decide +kernel) (isR_lit2 _ _ 127 5000 _ (by decide +kernel) (by decide +kernel) (by decide +kernel) (by decide +kernel) (by decide +kernel) (by decide +kernel) (by decide +kernel) (by decide +kernel) (by decide +kernel)) (by decide +kernel) (isR_lit2 _ _ 127 5000 _ (by decide +kernel) (by decide +kernel) (by decide +kernel) (by decide +kernel) (by decide +kernel) (by decide +kernel) (by decide +kernel) (by decide +kernel) (by decide +kernel)) (fun _=>by kernel_rfl) (fun W=>inch_made W)
 | 1,_=>fun W ht=>told_of (trt 1) (381 / 1250) (381 / 1250) W ht (by decide +kernel) (by decide +kernel) (by decide +kernel) (isR_lit2 _ _ 381 1250 _ (by decide +kernel) (by decide +kernel) (by decide +kernel) (by decide +kernel) (by decide +kernel) (by decide +kernel) (by decide +kernel) (by decide +kernel) (by decide +kernel)) (by decide +kernel) (isR_lit2 _ _ 381 1250 _ (by decide +kernel) (by decide +kernel) (by decide +kernel) (by decide +kernel) (by decide +kernel) (by decide +kernel) (by decide +kernel) (by decide +kernel) (by decide +kernel)) (fun _=>by kernel_rfl) (fun W=>foot_made W)
 | 2,_=>fun W ht=>told_of (trt 2) (1143 / 625) (1143 / 625) W ht (by decide +kernel) (by decide +kernel) (by decide +kernel) (isR_lit2 _ _ 1143 625 _ (by decide +kernel) (by decide +kernel) (by decide +kernel) (by decide +kernel) (by decide +kernel) (by decide +kernel) (by decide +kernel) (by decide +kernel) (by decide +kernel)) (by decide +kernel) (isR_lit2 _ _ 1143 625 _ (by decide +kernel) (by decide +kernel) (by decide +kernel) (by decide +kernel) (by decide +kernel) (by decide +kernel) (by decide +kernel) (by decide +kernel) (by decide +kernel)) (fun _=>by kernel_rfl) (fun W=>fathom_made W)
 | 3,_=>fun W ht=>told_of (trt 3) (127 / 1250) (127 / 1250) W ht (by decide +kernel) (by decide +kernel) (by decide +kernel) (isR_lit2 _ _ 127 1250 _ (by decide +kernel) (by decide +kernel) (by decide +kernel) (by decide +kernel) (by decide +kernel) (by decide +kernel) (by decide +kernel) (by decide +kernel) (by decide +kernel)) (by decide +kernel) (isR_lit2 _ _ 127 1250 _ (by decide +kernel) (by decide +kernel) (by decide +kernel) (by decide +kernel) (by decide +kernel) (by decide +kernel) (by decide +kernel) (by decide +kernel) (by decide +kernel)) (fun _=>by kernel_rfl) (fun W=>hand_made W)
 | 4,_=>fun W ht=>told_of (trt 4) 1852 1852 W ht (by decide +kernel) (by decide +kernel) (by decide +kernel) (isR_lit2 _ _ 1852 1 _ (by decide +kernel) (by decide +kernel) (by decide +kernel) (by decide +kernel) (by decide +kernel) (by decide +kernel) (by decide +kernel) (by decide +kernel) (by decide +kernel)) (by decide +kernel) (isR_lit2 _ _ 1852 1 _ (by decide +kernel) (by decide +kernel) (by decide +kernel) (by decide +kernel) (by decide +kernel) (by decide +kernel) (by decide +kernel) (by decide +kernel) (by decide +kernel)) (fun _=>by kernel_rfl) (fun W=>nautical_made W)
 | 5,_=>fun W ht=>told_of (trt 5) (463 / 900) (463 / 900) W ht (by decide +kernel) (by decide +kernel) (by decide +kernel) (isR_lit2 _ _ 463 900 _ (by decide +kernel) (by decide +kernel) (by decide +kernel) (by decide +kernel) (by decide +kernel) (by decide +kernel) (by decide +kernel) (by decide +kernel) (by decide +kernel)) (by decide +kernel) (isR_lit2 _ _ 463 900 _ (by decide +kernel) (by decide +kernel) (by decide +kernel) (by decide +kernel) (by decide +kernel) (by decide +kernel) (by decide +kernel) (by decide +kernel) (by decide +kernel)) (fun _=>by kernel_rfl) (fun W=>knot_made W)
 | 6,_=>fun W ht=>told_of (trt 6) (1143 / 1250) (1143 / 1250) W ht (by decide +kernel) (by decide +kernel) (by decide +kernel) (isR_lit2 _ _ 1143 1250 _ (by decide +kernel) (by decide +kernel) (by decide +kernel) (by decide +kernel) (by decide +kernel) (by decide +kernel) (by decide +kernel) (by decide +kernel) (by decide +kernel)) (by decide +kernel) (isR_lit2 _ _ 1143 1250 _ (by decide +kernel) (by decide +kernel) (by decide +kernel) (by decide +kernel) (by decide +kernel) (by decide +kernel) (by decide +kernel) (by decide +kernel) (by decide +kernel)) (fun _=>by kernel_rfl) (fun W=>yard_made W)
 | 7,_=>fun W ht=>told_of (trt 7) (201168 / 125) (201168 / 125) W ht (by decide +kernel) (by decide +kernel) (by decide +kernel) (isR_lit2 _ _ 201168 125 _ (by decide +kernel) (by decide +kernel) (by decide +kernel) (by decide +kernel) (by decide +kernel) (by decide +kernel) (by decide +kernel) (by decide +kernel) (by decide +kernel)) (by decide +kernel) (isR_lit2 _ _ 201168 125 _ (by decide +kernel) (by decide +kernel) (by decide +kernel) (by decide +kernel) (by decide +kernel) (by decide +kernel) (by decide +kernel) (by decide +kernel) (by decide +kernel)) (fun _=>by kernel_rfl) (fun W=>mile_made W)
 | 8,_=>fun W ht=>told_of (trt 8) (316160658 / 78125) (316160658 / 78125) W ht (by decide +kernel) (by decide +kernel) (by decide +kernel) (isR_lit2 _ _ 316160658 78125 _ (by decide +kernel) (by decide +kernel) (by decide +kernel) (by decide +kernel) (by decide +kernel) (by decide +kernel) (by decide +kernel) (by decide +kernel) (by decide +kernel)) (by decide +kernel) (isR_lit2 _ _ 316160658 78125 _ (by decide +kernel) (by decide +kernel) (by decide +kernel) (by decide +kernel) (by decide +kernel) (by decide +kernel) (by decide +kernel) (by decide +kernel) (by decide +kernel)) (fun _=>by kernel_rfl) (fun W=>acre_made W)
 | 9,_=>fun W ht=>told_of (trt 9) 101325 101325 W ht (by decide +kernel) (by decide +kernel) (by decide +kernel) (isR_lit2 _ _ 101325 1 _ (by decide +kernel) (by decide +kernel) (by decide +kernel) (by decide +kernel) (by decide +kernel) (by decide +kernel) (by decide +kernel) (by decide +kernel) (by decide +kernel)) (by decide +kernel) (isR_lit2 _ _ 101325 1 _ (by decide +kernel) (by decide +kernel) (by decide +kernel) (by decide +kernel) (by decide +kernel) (by decide +kernel) (by decide +kernel) (by decide +kernel) (by decide +kernel)) (fun _=>by kernel_rfl) (fun W=>atmosphere_made W)
 | 10,_=>fun W ht=>told_of (trt 10) (523 / 125) (523 / 125) W ht (by decide +kernel) (by decide +kernel) (by decide +kernel) (isR_lit2 _ _ 523 125 _ (by decide +kernel) (by decide +kernel) (by decide +kernel) (by decide +kernel) (by decide +kernel) (by decide +kernel) (by decide +kernel) (by decide +kernel) (by decide +kernel)) (by decide +kernel) (isR_lit2 _ _ 523 125 _ (by decide +kernel) (by decide +kernel) (by decide +kernel) (by decide +kernel) (by decide +kernel) (by decide +kernel) (by decide +kernel) (by decide +kernel) (by decide +kernel)) (fun _=>by kernel_rfl) (fun W=>calorie_made W)
 | 11,_=>fun W ht=>told_of (trt 11) (473176473 / 125000000000) (473176473 / 125000000000) W ht (by decide +kernel) (by decide +kernel) (by decide +kernel) (isR_lit2 _ _ 473176473 125000000000 _ (by decide +kernel) (by decide +kernel) (by decide +kernel) (by decide +kernel) (by decide +kernel) (by decide +kernel) (by decide +kernel) (by decide +kernel) (by decide +kernel)) (by decide +kernel) (isR_lit2 _ _ 473176473 125000000000 _ (by decide +kernel) (by decide +kernel) (by decide +kernel) (by decide +kernel) (by decide +kernel) (by decide +kernel) (by decide +kernel) (by decide +kernel) (by decide +kernel)) (fun _=>by kernel_rfl) (fun W=>gallon_made W)
 | 12,_=>fun W ht=>told_of (trt 12) (473176473 / 1000000000000) (473176473 / 1000000000000) W ht (by decide +kernel) (by decide +kernel) (by decide +kernel) (isR_lit2 _ _ 473176473 1000000000000 _ (by decide +kernel) (by decide +kernel) (by decide +kernel) (by decide +kernel) (by decide +kernel) (by decide +kernel) (by decide +kernel) (by decide +kernel) (by decide +kernel)) (by decide +kernel) (isR_lit2 _ _ 473176473 1000000000000 _ (by decide +kernel) (by decide +kernel) (by decide +kernel) (by decide +kernel) (by decide +kernel) (by decide +kernel) (by decide +kernel) (by decide +kernel) (by decide +kernel)) (fun _=>by kernel_rfl) (fun W=>pint_made W)
 | 13,_=>fun W ht=>told_of (trt 13) (45359237 / 100000) (45359237 / 100000000) W ht (by decide +kernel) (by decide +kernel) (by decide +kernel) (isR_lit2 _ _ 45359237 100000 _ (by decide +kernel) (by decide +kernel) (by decide +kernel) (by decide +kernel) (by decide +kernel) (by decide +kernel) (by decide +kernel) (by decide +kernel) (by decide +kernel)) (by decide +kernel) (isR_lit2 _ _ 45359237 100000000 _ (by decide +kernel) (by decide +kernel) (by decide +kernel) (by decide +kernel) (by decide +kernel) (by decide +kernel) (by decide +kernel) (by decide +kernel) (by decide +kernel)) (fun _=>by kernel_rfl) (fun W=>pound_made W)
 | 14,_=>fun W ht=>told_of (trt 14) (6479891 / 100000000) (6479891 / 100000000000) W ht (by decide +kernel) (by decide +kernel) (by decide +kernel) (isR_lit2 _ _ 6479891 100000000 _ (by decide +kernel) (by decide +kernel) (by decide +kernel) (by decide +kernel) (by decide +kernel) (by decide +kernel) (by decide +kernel) (by decide +kernel) (by decide +kernel)) (by decide +kernel) (isR_lit2 _ _ 6479891 100000000000 _ (by decide +kernel) (by decide +kernel) (by decide +kernel) (by decide +kernel) (by decide +kernel) (by decide +kernel) (by decide +kernel) (by decide +kernel) (by decide +kernel)) (fun _=>by kernel_rfl) (fun W=>grain_made W)
 | 15,_=>fun W ht=>told_of (trt 15) (45359237 / 1600000) (45359237 / 1600000000) W ht (by decide +kernel) (by decide +kernel) (by decide +kernel) (isR_lit2 _ _ 45359237 1600000 _ (by decide +kernel) (by decide +kernel) (by decide +kernel) (by decide +kernel) (by decide +kernel) (by decide +kernel) (by decide +kernel) (by decide +kernel) (by decide +kernel)) (by decide +kernel) (isR_lit2 _ _ 45359237 1600000000 _ (by decide +kernel) (by decide +kernel) (by decide +kernel) (by decide +kernel) (by decide +kernel) (by decide +kernel) (by decide +kernel) (by decide +kernel) (by decide +kernel)) (fun _=>by kernel_rfl) (fun W=>ounce_made W)
 | 16,_=>fun W ht=>told_of (trt 16) (8896443230521 / 2000000000) (8896443230521 / 2000000000000) W ht (by decide +kernel) (by decide +kernel) (by decide +kernel) (isR_lit2 _ _ 8896443230521 2000000000 _ (by decide +kernel) (by decide +kernel) (by decide +kernel) (by decide +kernel) (by decide +kernel) (by decide +kernel) (by decide +kernel) (by decide +kernel) (by decide +kernel)) (by decide +kernel) (isR_lit2 _ _ 8896443230521 2000000000000 _ (by decide +kernel) (by decide +kernel) (by decide +kernel) (by decide +kernel) (by decide +kernel) (by decide +kernel) (by decide +kernel) (by decide +kernel) (by decide +kernel)) (fun _=>by kernel_rfl) (fun W=>poundforce_made W)
 | 17,_=>fun W ht=>told_of (trt 17) (37284993579113511 / 50000000000) (37284993579113511 / 50000000000000) W ht (by decide +kernel) (by decide +kernel) (by decide +kernel) (isR_lit2 _ _ 37284993579113511 50000000000 _ (by decide +kernel) (by decide +kernel) (by decide +kernel) (by decide +kernel) (by decide +kernel) (by decide +kernel) (by decide +kernel) (by decide +kernel) (by decide +kernel)) (by decide +kernel) (isR_lit2 _ _ 37284993579113511 50000000000000 _ (by decide +kernel) (by decide +kernel) (by decide +kernel) (by decide +kernel) (by decide +kernel) (by decide +kernel) (by decide +kernel) (by decide +kernel) (by decide +kernel)) (fun _=>by kernel_rfl) (fun W=>horsepower_made W)
 | 18,_=>fun W ht=>told_of (trt 18) (8896443230521 / 1290320) (8896443230521 / 1290320000) W ht (by decide +kernel) (by decide +kernel) (by decide +kernel) (isR_lit2 _ _ 8896443230521 1290320 _ (by decide +kernel) (by decide +kernel) (by decide +kernel) (by decide +kernel) (by decide +kernel) (by decide +kernel) (by decide +kernel) (by decide +kernel) (by decide +kernel)) (by decide +kernel) (isR_lit2 _ _ 8896443230521 1290320000 _ (by decide +kernel) (by decide +kernel) (by decide +kernel) (by decide +kernel) (by decide +kernel) (by decide +kernel) (by decide +kernel) (by decide +kernel) (by decide +kernel)) (fun _=>by kernel_rfl) (fun W=>psi_made W)
 | 19,_=>fun W ht=>told_of (trt 19) (317514659 / 50000) (317514659 / 50000000) W ht (by decide +kernel) (by decide +kernel) (by decide +kernel) (isR_lit2 _ _ 317514659 50000 _ (by decide +kernel) (by decide +kernel) (by decide +kernel) (by decide +kernel) (by decide +kernel) (by decide +kernel) (by decide +kernel) (by decide +kernel) (by decide +kernel)) (by decide +kernel) (isR_lit2 _ _ 317514659 50000000 _ (by decide +kernel) (by decide +kernel) (by decide +kernel) (by decide +kernel) (by decide +kernel) (by decide +kernel) (by decide +kernel) (by decide +kernel) (by decide +kernel)) (fun _=>by kernel_rfl) (fun W=>stone_made W)
 | 20,_=>fun W ht=>told_of (trt 20) (45359237 / 50) (45359237 / 50000) W ht (by decide +kernel) (by decide +kernel) (by decide +kernel) (isR_lit2 _ _ 45359237 50 _ (by decide +kernel) (by decide +kernel) (by decide +kernel) (by decide +kernel) (by decide +kernel) (by decide +kernel) (by decide +kernel) (by decide +kernel) (by decide +kernel)) (by decide +kernel) (isR_lit2 _ _ 45359237 50000 _ (by decide +kernel) (by decide +kernel) (by decide +kernel) (by decide +kernel) (by decide +kernel) (by decide +kernel) (by decide +kernel) (by decide +kernel) (by decide +kernel)) (fun _=>by kernel_rfl) (fun W=>ton_made W)
 | 21,_=>fun W ht=>told_of (trt 21) (20265 / 152) (20265 / 152) W ht (by decide +kernel) (by decide +kernel) (by decide +kernel) (isR_lit2 _ _ 20265 152 _ (by decide +kernel) (by decide +kernel) (by decide +kernel) (by decide +kernel) (by decide +kernel) (by decide +kernel) (by decide +kernel) (by decide +kernel) (by decide +kernel)) (by decide +kernel) (isR_lit2 _ _ 20265 152 _ (by decide +kernel) (by decide +kernel) (by decide +kernel) (by decide +kernel) (by decide +kernel) (by decide +kernel) (by decide +kernel) (by decide +kernel) (by decide +kernel)) (fun _=>by kernel_rfl) (fun W=>torr_made W)
 | _+22,h=>absurd h (by omega)
theorem rtT_size (k:Nat):(rtT (trt k)).size=15:=rfl
theorem rtT_ones (k:Nat):(rtT (trt k)).all (·.oneCell')=true:=by kernel_rfl
end Go.Proofs.YtamoadanapmmeaaGreatDoor.Tr

namespace Go.Proofs.YtamoadanapmmeaaGreatDoor.Tr
open Go.RowKit
structure R3 (W:World) (g k:Nat) (nm sy:ByteArray) (f:Nat):Prop where
  c0:W.cell? ⟨g,k*3,none⟩=some (.string nm)
  c1:W.cell? ⟨g,k*3+1,none⟩=some (.string sy)
  c2:W.cell? ⟨g,k*3+2,none⟩=some (.func (.func f) #[] #[])
theorem R3.later {W V:World} {B g k f:Nat} {nm sy:ByteArray} (h:R3 W g k nm sy f) (hb:Below B W V) (hg:g<B):R3 V g k nm sy f :=
  ⟨(hb.cell (p:=⟨g,k*3,none⟩) hg).trans h.c0,(hb.cell (p:=⟨g,k*3+1,none⟩) hg).trans h.c1,(hb.cell (p:=⟨g,k*3+2,none⟩) hg).trans h.c2⟩
def rows22:Array Value:=#[.string ⟨#[105,110,99,104]⟩,.string ⟨#[105,110,99,104]⟩,.func (.func 72) #[] #[],.string ⟨#[102,111,111,116]⟩,.string ⟨#[102,116]⟩,.func (.func 73) #[] #[],.string ⟨#[102,97,116,104,111,109]⟩,.string ⟨#[102,116,109]⟩,.func (.func 74) #[] #[],.string ⟨#[104,97,110,100]⟩,.string ⟨#[104,104]⟩,.func (.func 75) #[] #[],.string ⟨#[110,97,117,116,105,99,97,108]⟩,.string ⟨#[110,109,105]⟩,.func (.func 76) #[] #[],.string ⟨#[107,110,111,116]⟩,.string ⟨#[107,110]⟩,.func (.func 77) #[] #[],.string ⟨#[121,97,114,100]⟩,.string ⟨#[121,100]⟩,.func (.func 78) #[] #[],.string ⟨#[109,105,108,101]⟩,.string ⟨#[109,105]⟩,.func (.func 79) #[] #[],.string ⟨#[97,99,114,101]⟩,.string ⟨#[97,99]⟩,.func (.func 80) #[] #[],.string ⟨#[97,116,109,111,115,112,104,101,114,101]⟩,.string ⟨#[97,116,109]⟩,.func (.func 81) #[] #[],.string ⟨#[99,97,108,111,114,105,101]⟩,.string ⟨#[99,97,108]⟩,.func (.func 82) #[] #[],.string ⟨#[103,97,108,108,111,110]⟩,.string ⟨#[103,97,108]⟩,.func (.func 83) #[] #[],.string ⟨#[112,105,110,116]⟩,.string ⟨#[112,116]⟩,.func (.func 84) #[] #[],.string ⟨#[112,111,117,110,100]⟩,.string ⟨#[108,98]⟩,.func (.func 85) #[] #[],.string ⟨#[103,114,97,105,110]⟩,.string ⟨#[103,114]⟩,.func (.func 86) #[] #[],.string ⟨#[111,117,110,99,101]⟩,.string ⟨#[111,122]⟩,.func (.func 87) #[] #[],.string ⟨#[112,111,117,110,100,102,111,114,99,101]⟩,.string ⟨#[108,98,102]⟩,.func (.func 88) #[] #[],.string ⟨#[104,111,114,115,101,112,111,119,101,114]⟩,.string ⟨#[104,112]⟩,.func (.func 89) #[] #[],.string ⟨#[112,115,105]⟩,.string ⟨#[112,115,105]⟩,.func (.func 90) #[] #[],.string ⟨#[115,116,111,110,101]⟩,.string ⟨#[115,116]⟩,.func (.func 91) #[] #[],.string ⟨#[116,111,110]⟩,.string ⟨#[116,110]⟩,.func (.func 92) #[] #[],.string ⟨#[116,111,114,114]⟩,.string ⟨#[84,111,114,114]⟩,.func (.func 93) #[] #[]]
set_option maxRecDepth 100000 in
set_option maxHeartbeats 4000000 in
theorem rowsT (w:World):Calls Tryz.prog 34 #[] w fun r w'=>r=.returned (.slice (some ⟨w.heap.size,0,none⟩) 22 22)∧w'=w.alloc (.cells rows22 58):=by
  go_enter Tryz.func34,Tryz.ntmps34
  go_wp2
  go_ret
  exact⟨rfl,rfl⟩
theorem rows22_at (W:World):∀k,k<22→R3 (W.alloc (.cells rows22 58)) W.heap.size k (trt k).nm (trt k).sy (trt k).f
  | 0,_=>⟨(OwnU.new W rows22 58).ub.c 0 _ rfl,(OwnU.new W rows22 58).ub.c 1 _ rfl,(OwnU.new W rows22 58).ub.c 2 _ rfl⟩
  | 1,_=>⟨(OwnU.new W rows22 58).ub.c 3 _ rfl,(OwnU.new W rows22 58).ub.c 4 _ rfl,(OwnU.new W rows22 58).ub.c 5 _ rfl⟩
  | 2,_=>⟨(OwnU.new W rows22 58).ub.c 6 _ rfl,(OwnU.new W rows22 58).ub.c 7 _ rfl,(OwnU.new W rows22 58).ub.c 8 _ rfl⟩
  | 3,_=>⟨(OwnU.new W rows22 58).ub.c 9 _ rfl,(OwnU.new W rows22 58).ub.c 10 _ rfl,(OwnU.new W rows22 58).ub.c 11 _ rfl⟩
  | 4,_=>⟨(OwnU.new W rows22 58).ub.c 12 _ rfl,(OwnU.new W rows22 58).ub.c 13 _ rfl,(OwnU.new W rows22 58).ub.c 14 _ rfl⟩
  | 5,_=>⟨(OwnU.new W rows22 58).ub.c 15 _ rfl,(OwnU.new W rows22 58).ub.c 16 _ rfl,(OwnU.new W rows22 58).ub.c 17 _ rfl⟩
  | 6,_=>⟨(OwnU.new W rows22 58).ub.c 18 _ rfl,(OwnU.new W rows22 58).ub.c 19 _ rfl,(OwnU.new W rows22 58).ub.c 20 _ rfl⟩
  | 7,_=>⟨(OwnU.new W rows22 58).ub.c 21 _ rfl,(OwnU.new W rows22 58).ub.c 22 _ rfl,(OwnU.new W rows22 58).ub.c 23 _ rfl⟩
  | 8,_=>⟨(OwnU.new W rows22 58).ub.c 24 _ rfl,(OwnU.new W rows22 58).ub.c 25 _ rfl,(OwnU.new W rows22 58).ub.c 26 _ rfl⟩
  | 9,_=>⟨(OwnU.new W rows22 58).ub.c 27 _ rfl,(OwnU.new W rows22 58).ub.c 28 _ rfl,(OwnU.new W rows22 58).ub.c 29 _ rfl⟩
  | 10,_=>⟨(OwnU.new W rows22 58).ub.c 30 _ rfl,(OwnU.new W rows22 58).ub.c 31 _ rfl,(OwnU.new W rows22 58).ub.c 32 _ rfl⟩
  | 11,_=>⟨(OwnU.new W rows22 58).ub.c 33 _ rfl,(OwnU.new W rows22 58).ub.c 34 _ rfl,(OwnU.new W rows22 58).ub.c 35 _ rfl⟩
  | 12,_=>⟨(OwnU.new W rows22 58).ub.c 36 _ rfl,(OwnU.new W rows22 58).ub.c 37 _ rfl,(OwnU.new W rows22 58).ub.c 38 _ rfl⟩
  | 13,_=>⟨(OwnU.new W rows22 58).ub.c 39 _ rfl,(OwnU.new W rows22 58).ub.c 40 _ rfl,(OwnU.new W rows22 58).ub.c 41 _ rfl⟩
  | 14,_=>⟨(OwnU.new W rows22 58).ub.c 42 _ rfl,(OwnU.new W rows22 58).ub.c 43 _ rfl,(OwnU.new W rows22 58).ub.c 44 _ rfl⟩
  | 15,_=>⟨(OwnU.new W rows22 58).ub.c 45 _ rfl,(OwnU.new W rows22 58).ub.c 46 _ rfl,(OwnU.new W rows22 58).ub.c 47 _ rfl⟩
  | 16,_=>⟨(OwnU.new W rows22 58).ub.c 48 _ rfl,(OwnU.new W rows22 58).ub.c 49 _ rfl,(OwnU.new W rows22 58).ub.c 50 _ rfl⟩
  | 17,_=>⟨(OwnU.new W rows22 58).ub.c 51 _ rfl,(OwnU.new W rows22 58).ub.c 52 _ rfl,(OwnU.new W rows22 58).ub.c 53 _ rfl⟩
  | 18,_=>⟨(OwnU.new W rows22 58).ub.c 54 _ rfl,(OwnU.new W rows22 58).ub.c 55 _ rfl,(OwnU.new W rows22 58).ub.c 56 _ rfl⟩
  | 19,_=>⟨(OwnU.new W rows22 58).ub.c 57 _ rfl,(OwnU.new W rows22 58).ub.c 58 _ rfl,(OwnU.new W rows22 58).ub.c 59 _ rfl⟩
  | 20,_=>⟨(OwnU.new W rows22 58).ub.c 60 _ rfl,(OwnU.new W rows22 58).ub.c 61 _ rfl,(OwnU.new W rows22 58).ub.c 62 _ rfl⟩
  | 21,_=>⟨(OwnU.new W rows22 58).ub.c 63 _ rfl,(OwnU.new W rows22 58).ub.c 64 _ rfl,(OwnU.new W rows22 58).ub.c 65 _ rfl⟩
  | n+22,h=>absurd h (by omega)
set_option maxRecDepth 100000 in
set_option maxHeartbeats 2000000 in
theorem closureT (nm sy:ByteArray) (fv:Value) (s:ByteArray) (b:Nat) (w:World) (hb:w.cell? ⟨b,0,none⟩=some (.string s)) (hlt:b<w.heap.size):Calls Tryz.prog 40 #[.agg #[.string nm,.string sy,fv],.pointer (some ⟨b,0,none⟩)] w fun r w'=>r=.returned (.bool (plainB s nm sy))∧Below w.heap.size w w':=by
  unfold plainB
  go_enter Tryz.func40,Tryz.ntmps40
  go_wp2_with fail
  all_goals
    go_ret
    refine⟨?_,(Below.refl _ _).alloc (Nat.le_refl _) _⟩
    first|rfl|(simp[*];done)|(simp_all;done)
def trB (s:ByteArray) (k:Nat):Bool:=plainB s (trt k).nm (trt k).sy
def IsF22 (p:Nat→Bool) (j:Int):Prop:=(∃k:Nat,k<22∧j=(k:Int)∧p k=true∧∀i,i<k→p i=false)∨(j=-1∧∀i,i<22→p i=false)
set_option maxRecDepth 100000 in
set_option maxHeartbeats 2000000 in
theorem indexT (s:ByteArray) (g cap b:Nat) (w:World) (hr:∀k,k<22→R3 w g k (trt k).nm (trt k).sy (trt k).f) (hg:g<w.heap.size) (hb:w.cell? ⟨b,0,none⟩=some (.string s)) (hlt:b<w.heap.size) :
    Calls Tryz.prog 39 #[.slice (some ⟨g,0,none⟩) 22 cap,.func (.func 40) #[] #[.pointer (some ⟨b,0,none⟩)]] w fun r w'=>∃j:Int,r=.returned (I j)∧IsF22 (trB s) j∧Below w.heap.size w w':=by
  have HR:=hide hr;have HBC:=hide hb
  clear hr hb
  go_enter Tryz.func39,Tryz.ntmps39
  go_wp2_with fail
  go_loopw [8] (fun s8 wr=>∃(k:Nat),k≤22∧s8=I (k:Int)∧Hid (∀i,i<k→trB s i=false)∧Hid (Below w.heap.size w wr)) (fun s8 _=>22 - (intOf s8).toNat)
  case atStart=>exact⟨0,by omega,rfl,fun i hi=>absurd hi (by omega),Below.refl _ _⟩
  case round=>
    obtain⟨k,hk,rfl,HN,HB⟩:=hrel
    by_cases hk4:k<22
    · have hkI:(k:Int)<22:=by omega
      have hk0:(0:Int)≤(k:Int):=by omega
      have hrow:=(un HR k hk4).later (un HB) hg
      have c0:=hrow.c0;have c1:=hrow.c1;have c2:=hrow.c2
      clear hrow
      have HC:Hid (∀W,Below wr.heap.size wr W→Calls Tryz.prog 40 #[.agg #[.string (trt k).nm,.string (trt k).sy,.func (.func (trt k).f) #[] #[]],.pointer (some ⟨b,0,none⟩)] W fun r w'=>r=.returned (.bool (trB s k))∧Below W.heap.size W w'):=fun W hW=>
        closureT _ _ _ s b W (((un HB).trans (hW.mono (un HB).size)).cell (p:=⟨b,0,none⟩) hlt |>.trans (un HBC)) (Nat.lt_of_lt_of_le hlt (((un HB).trans (hW.mono (un HB).size)).size))
      have HNK:=hide (fun (e:trB s k=false)=>none_succ (un HN) e)
      have HYK:=hide (fun (e:trB s k=true)=>(Or.inl ⟨k,hk4,rfl,e,un HN⟩:IsF22 (trB s) (k:Int)))
      generalize (trt k).nm=nm at *
      generalize (trt k).sy=sy at *
      generalize (trt k).f=f at *
      by_cases hB:trB s k=true
      · have HJ:=hide (un HYK hB)
        rw[hB]at HC
        clear HNK HYK hB
        go_wp2_with (go_at_call 40;go_must(refine(un HC _ (Below.refl _ _)).mono ?_;rintro e wt ⟨rfl,hbt⟩;have HBT:=hide hbt;clear hbt))
        go_ret
        exact⟨_,rfl,un HJ,(un HB).trans ((un HBT).mono (un HB).size)⟩
      · have hB':trB s k=false:=by simpa using hB
        have HJ:=hide (un HNK hB')
        rw[hB']at HC
        clear HNK HYK hB hB'
        go_wp2_with (go_at_call 40;go_must(refine(un HC _ (Below.refl _ _)).mono ?_;rintro e wt ⟨rfl,hbt⟩;have HBT:=hide hbt;clear hbt))
        go_roundw
        case rel=>exact⟨k+1,by omega,by go_num,HJ,(un HB).trans ((un HBT).mono (un HB).size)⟩
        case measure=>simp[intOf];omega
    · have hkI:¬(k:Int)<22:=by omega
      go_wp2_with fail
      go_ret
      exact⟨-1,rfl,Or.inr ⟨rfl,fun i hi=>un HN i (by omega)⟩,un HB⟩
theorem setRow_cell (w:World) (g k o:Nat) (cs:Array Value) (h:k≠g):(w.setRow g cs).cell? ⟨k,o,none⟩=w.cell? ⟨k,o,none⟩:=by
  have:=setRow_other w g k cs h
  simp only[World.cell?,this]
theorem first22 {p:Nat→Bool} {i j:Int} (h1:IsF22 p i) (h2:IsF22 p j):i=j:=by
  rcases h1 with ⟨a,ha,rfl,pa,qa⟩|⟨rfl,na⟩<;>rcases h2 with ⟨c,hc,rfl,pc,qc⟩|⟨rfl,nc⟩
  · rcases Nat.lt_trichotomy a c with h|h|h
    · rw[qc a h]at pa;cases pa
    · rw[h]
    · rw[qa c h]at pc;cases pc
  · rw[nc a ha]at pa;cases pa
  · rw[na c hc]at pc;cases pc
  · rfl
def FindT (p:Nat→Bool) (v:Value):Prop:=(∃k:Nat,k<22∧IsF22 p (k:Int)∧v=.tuple #[.agg (rtT (trt k)),.bool true])∨(IsF22 p (-1)∧v=.tuple #[.agg z15,.bool false])
theorem FindT.det {p:Nat→Bool} {v u:Value} (h1:FindT p v) (h2:FindT p u):v=u:=by
  rcases h1 with ⟨a,ha,fa,rfl⟩|⟨fa,rfl⟩<;>rcases h2 with ⟨c,hc,fc,rfl⟩|⟨fc,rfl⟩
  · have:=first22 fa fc
    have e:a=c:=by omega
    rw[e]
  · have:=first22 fa fc;omega
  · have:=first22 fa fc;omega
  · rfl
set_option maxRecDepth 100000 in
set_option maxHeartbeats 4000000 in
theorem findT (s:ByteArray) (w:World) (htab:Tab w):Calls Tryz.prog 14 #[.string s] w fun r w'=>∃v,r=.returned v∧FindT (trB s) v∧Below w.heap.size w w':=by
  obtain⟨V,hV⟩:∃V,V=(w.alloc (.cells #[.string s] 9)).alloc (.cells z15 30):=⟨_,rfl⟩
  have HBX:Hid (V.cell? ⟨w.heap.size,0,none⟩=some (.string s)∧w.heap.size<V.heap.size):=by rw[hV];exact⟨by simp[go_sem],by simp;omega⟩
  have HR:Hid (OwnU V (w.heap.size+1) 30 z15):=by rw[hV];have h:=OwnU.new (w.alloc (.cells #[.string s] 9)) z15 30;rw[Dm.size_alloc]at h;exact h
  have HB:Hid (Below w.heap.size w V):=by rw[hV];exact((Below.refl _ _).alloc (Nat.le_refl _) _).alloc (by simp) _
  have HTA:Hid (∀W,Below w.heap.size w W→Tab W):=fun W h=>htab.later h
  have HV:=hide hV
  clear hV htab
  go_enter Tryz.func14,Tryz.ntmps14
  go_upto_region 1 with fail
  rw[←un HV]
  clear HV
  go_upto_region 2 with (go_at_call 34;go_must(refine(rowsT _).mono ?_;rintro e W0 ⟨rfl,rfl⟩))
  obtain⟨W1,hW1⟩:∃W1,W1=V.alloc (.cells rows22 58):=⟨_,rfl⟩
  rw[←hW1]
  have HW:Hid (Below V.heap.size V W1):=by rw[hW1];exact(Below.refl _ _).alloc (Nat.le_refl _) _
  have HRW:Hid (∀k,k<22→R3 W1 V.heap.size k (trt k).nm (trt k).sy (trt k).f):=by rw[hW1];exact rows22_at V
  have HG:Hid (V.heap.size<W1.heap.size):=by rw[hW1];show _<_;simp
  clear hW1
  have HBX1:Hid (W1.cell? ⟨w.heap.size,0,none⟩=some (.string s)∧w.heap.size<W1.heap.size):=⟨((un HW).cell (p:=⟨w.heap.size,0,none⟩) (un HBX).2).trans (un HBX).1,Nat.lt_trans (un HBX).2 (un HG)⟩
  have HIX:=hide (indexT s V.heap.size 22 w.heap.size W1 (un HRW) (un HG) (un HBX1).1 (un HBX1).2)
  have HR1:=hide ((un HR).later (un HW));have HB1:=hide ((un HB).trans ((un HW).mono (un HB).size))
  have HN0:Hid (w.heap.size+1<V.heap.size):=(un HR).lt
  obtain⟨gR,hgR⟩:∃gR,gR=V.heap.size:=⟨_,rfl⟩
  rw[←hgR]at HRW HG HIX HN0 ⊢
  clear hgR HW HBX HBX1 HR HB
  go_upto_region 3 with (go_at_call 39;go_must(refine(un HIX).mono ?_;rintro e W2 ⟨j,rfl,hj,hb⟩;have HJ:=hide hj;have HB2:=hide ((un HB1).trans (hb.mono (un HB1).size));have HR2:=hide ((un HR1).later hb);have HRW2:=hide (fun k hk=>(un HRW k hk).later hb (un HG));have HG2:=hide (Nat.lt_of_lt_of_le (un HG) hb.size);clear hj hb))
  clear HIX HRW HG HR1 HB1
  rcases un HJ with ⟨k,hk,rfl,hk1,hk2⟩|⟨rfl,hn⟩
  · have hk0:(0:Int)≤(k:Int):=by omega
    have hkI:(k:Int)<22:=by omega
    have hkn:¬(k:Int)<0:=by omega
    have HW2:=hide (un HRW2 k hk)
    have HTO:=hide (told_tr k hk)
    unfold rowA at HTO
    have HOUT:Hid (FindT (trB s) (.tuple #[.agg (rtT (trt k)),.bool true])):=Or.inl ⟨k,hk,Or.inl ⟨k,hk,rfl,hk1,hk2⟩,rfl⟩
    have HSZ:=hide (rtT_size k);have HON:=hide (rtT_ones k)
    have HPA:=hide (fun W ht=>partsT_any W ht)
    clear hk1 hk2 HRW2 HJ
    generalize rtT (trt k)=u at *
    generalize (trt k).nm=nm at *
    generalize (trt k).sy=sy at *
    generalize (trt k).f=f at *
    generalize partsT=pT at *
    go_upto_region 5 with fail
    have HR3:Hid (OwnU W2.drew (w.heap.size+1) 30 z15):=un HR2
    have HB3:Hid (Below w.heap.size w W2.drew):=(un HB2).drew
    have HW3:Hid (R3 W2.drew gR k nm sy f):=(un HW2).later (Below.refl W2.heap.size W2).drew (un HG2)
    have HG3:Hid (gR<W2.drew.heap.size):=un HG2
    have HSS:Hid (∀W':World,R3 W' gR k nm sy f→W'.cell? ⟨gR,k*3,none⟩=some (.string nm)∧W'.cell? ⟨gR,k*3+1,none⟩=some (.string sy)∧W'.cell? ⟨gR,k*3+2,none⟩=some (.func (.func f) #[] #[])):=fun W' h=>⟨h.c0,h.c1,h.c2⟩
    have HS0:=hide (un HSS _ (un HW3))
    clear HR2 HB2 HW2 HG2
    refine region_reads 6 (fun _=>True) (fun W'=>W'.cell? ⟨gR,k*3,none⟩=some (.string nm)∧W'.cell? ⟨gR,k*3+1,none⟩=some (.string sy)∧W'.cell? ⟨gR,k*3+2,none⟩=some (.func (.func f) #[] #[])) 8 rfl (by kernel_rfl) ?_
    generalize W2.drew=U3 at *
    refine wpR_take7 (i:=0) (oi:=_) (v:=.slice (some ⟨gR,0,none⟩) 22 22) rfl (by kernel_rfl) (by kernel_rfl) (by kernel_rfl) (by kernel_rfl) (fun _ _ _ h=>h) (Or.inl ⟨by rfl,?_⟩) ⟨trivial,un HS0⟩ ?_
    · intro W' hW
      go_split_ands
      go_simp
    refine wpR_take7 (i:=1) (oi:=_) (v:=I (k:Int)) rfl (by kernel_rfl) (by kernel_rfl) (by kernel_rfl) (by kernel_rfl) (fun _ _ _ h=>h) (Or.inl ⟨by rfl,?_⟩) ⟨trivial,un HS0⟩ ?_
    · intro W' hW
      go_split_ands
      go_simp
    refine wpR_take7 (i:=2) (oi:=_) (v:=.pointer (some ⟨gR,k*3,none⟩)) rfl (by kernel_rfl) (by kernel_rfl) (by kernel_rfl) (by kernel_rfl) (fun _ _ _ h=>h) (Or.inl ⟨by rfl,?_⟩) ⟨trivial,un HS0⟩ ?_
    · intro W' hW
      go_split_ands
      go_simp
    refine wpR_take7 (i:=3) (oi:=_) (v:=.agg #[.string nm,.string sy,.func (.func f) #[] #[]]) rfl (by kernel_rfl) (by kernel_rfl) (by kernel_rfl) (by kernel_rfl) (fun _ _ _ h=>h) (Or.inl ⟨by rfl,?_⟩) ⟨trivial,un HS0⟩ ?_
    · intro W' hW
      go_split_ands
      go_simp
    refine wpR_op (i:=4) (o:=_) (by kernel_rfl) rfl rfl (fun K hK=>?_)
    go_simp
    refine(un HPA _ (un HTA _ (un HB3))).mono ?_
    rintro e U4 ⟨rfl,hb⟩
    have HR4:=hide ((un HR3).later hb);have HB4:Hid (Below w.heap.size w U4):=(un HB3).trans (hb.mono (un HB3).size);have HW4:=hide ((un HW3).later hb (un HG3));have HG4:=hide (Nat.lt_of_lt_of_le (un HG3) hb.size)
    clear hb HR3 HB3 HW3 HG3
    refine hK _ _ ⟨trivial,un HSS _ (un HW4)⟩ ?_
    clear hK K
    refine wpR_op (i:=5) (o:=_) (by kernel_rfl) rfl rfl (fun K hK=>?_)
    go_simp
    refine(un HTO _ (un HTA _ (un HB4))).mono ?_
    rintro e U5 ⟨rfl,hb⟩
    have HR5:=hide ((un HR4).later hb);have HB5:Hid (Below w.heap.size w U5):=(un HB4).trans (hb.mono (un HB4).size);have HW5:=hide ((un HW4).later hb (un HG4));have HG5:=hide (Nat.lt_of_lt_of_le (un HG4) hb.size)
    clear hb HR4 HB4 HW4 HG4
    refine hK _ _ ⟨trivial,un HSS _ (un HW5)⟩ ?_
    clear hK K
    have HW6:Hid ((U5.setRow (w.heap.size+1) u).cell? ⟨gR,k*3,none⟩=some (.string nm)∧(U5.setRow (w.heap.size+1) u).cell? ⟨gR,k*3+1,none⟩=some (.string sy)∧(U5.setRow (w.heap.size+1) u).cell? ⟨gR,k*3+2,none⟩=some (.func (.func f) #[] #[])):=(by
      have h:=un HW5
      have ne:=un HN0
      exact⟨(setRow_cell _ _ _ _ _ (by omega)).trans h.c0,(setRow_cell _ _ _ _ _ (by omega)).trans h.c1,(setRow_cell _ _ _ _ _ (by omega)).trans h.c2⟩)
    refine wpR_late (i:=6) (o:=_) (by kernel_rfl) rfl rfl (by kernel_rfl) (fun K hK=>?_)
    refine wp_store_row 30 (.tmp 2) (.tmp 18) rfl (w.heap.size+1) u (by kernel_rfl) (by kernel_rfl) 30 _ (un HR5) (by rw[info27,un HSZ]) (by rw[un HSZ];rfl) (un HON) (hK _ _ (un HW6) ?_)
    clear hK K
    refine wpR_late (i:=7) (o:=_) (by kernel_rfl) rfl rfl (by kernel_rfl) (fun K hK=>?_)
    go_simp
    refine hK _ _ (un HW6) ?_
    clear hK K
    refine wpR_done (by kernel_rfl) ?_
    go_wp2_with fail
    exact bodyPost_ret (v:=.tuple #[.agg u,.bool true]) (res27b Tryz.results14 _ _ (w.heap.size+1) _ (un HSZ) rfl ((un HR5).setRow _)) rfl ⟨_,rfl,un HOUT,below_setRow (un HB5) (by omega) _⟩
  · have hn1:((-1:Int)<0):=by decide
    go_wp2_with (refine storeT 30 15 info27 rfl (.tmp 2) (.tmp 12) rfl (w.heap.size+1) z15 z15 rfl rfl rfl rfl (un HR2) (by kernel_rfl) ?_)
    exact bodyPost_ret (v:=.tuple #[.agg z15,.bool false]) (res27b Tryz.results14 _ _ (w.heap.size+1) _ rfl rfl ((un HR2).setRow _)) rfl ⟨_,rfl,Or.inr ⟨Or.inr ⟨rfl,hn⟩,rfl⟩,below_setRow (un HB2) (by omega) _⟩
end Go.Proofs.YtamoadanapmmeaaGreatDoor.Tr

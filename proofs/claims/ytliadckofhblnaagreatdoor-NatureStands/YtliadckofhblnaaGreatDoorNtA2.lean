/- nature.All (23): the constants in their order, through a registry. -/
import Derived.Test.YtliadckofhblnaaGreatDoorLimb3
import Derived.Test.YtliadckofhblnaaGreatDoorNt17
import Derived.Test.YtliadckofhblnaaGreatDoorNtK4
import Derived.Test.YtliadckofhblnaaGreatDoorTabS
import Derived.Test.YtliadckofhblnaaGreatDoorPower
import Derived.Test.YtliadckofhblnaaGreatDoorMid
import Derived.Deep.Onto
set_option maxHeartbeats 8000000
set_option maxRecDepth 100000
namespace Go.Proofs.YtliadckofhblnaaGreatDoor.Nt
open Go.RowKit Go.Maps Go.ChangeMaps Go.WideMaps
theorem zAx (nm sy vn vd sn sd ut:ByteArray) (sg:Int) (hsg:0≤sg) (w:World)
  (h36:∀W,Below w.heap.size w W→Calls Tryz.prog 169 #[.string nm,.string sy] W fun r w'=>r=.returned (.bool true)∧Bw W w')
  (h38:∀W,Below w.heap.size w W→Calls Tryz.prog 206 #[.agg #[.string sn,.string sd]] W fun r w'=>r=.returned (.tuple #[I sg,I 0])∧Bw W w')
  (h39:∀W,Below w.heap.size w W→Calls Tryz.prog 172 #[.agg #[.string vn,.string vd]] W fun r w'=>r=.returned (.bool true)∧Bw W w')
  (hut:ut.toList.isEmpty=false) (hsz:ut.size≤65536) :
  Calls Tryz.prog 143 #[.agg #[.string nm,.string sy,.string vn,.string vd,.string sn,.string sd,.string ut]] w fun r w'=>r=.returned (.bool true)∧Bw w w':=by
 obtain⟨V,hV⟩:∃V,V=w.alloc (.cells #[.string nm,.string sy,.string vn,.string vd,.string sn,.string sd,.string ut] 45):=⟨_,rfl⟩;have HU0:Hid (zAc V w.heap.size 45 #[.string nm,.string sy,.string vn,.string vd,.string sn,.string sd,.string ut]):=by rw[hV];exact zAc.new _ _ _
 have HB0:Hid (Bw w V):=by rw[hV];exact bA
 have HV:=zAb hV;have H36:=zAb h36;have H38:=zAb h38;have H39:=zAb h39;clear hV h36 h38 h39;have hszI:(ut.size:Int)≤65536:=by omega
 go_enter Tryz.func143,Tryz.ntmps143
 go_upto_region 1 with fail
 rw[←un HV];clear HV;have u0:V.cell? ⟨w.heap.size,0,none⟩=some (.string nm):=(un HU0).ub.c 0 _ rfl;have u1:V.cell? ⟨w.heap.size,1,none⟩=some (.string sy):=(un HU0).ub.c 1 _ rfl;have u2:V.cell? ⟨w.heap.size,2,none⟩=some (.string vn):=(un HU0).ub.c 2 _ rfl;have u3:V.cell? ⟨w.heap.size,3,none⟩=some (.string vd):=(un HU0).ub.c 3 _ rfl;have u4:V.cell? ⟨w.heap.size,4,none⟩=some (.string sn):=(un HU0).ub.c 4 _ rfl;have u5:V.cell? ⟨w.heap.size,5,none⟩=some (.string sd):=(un HU0).ub.c 5 _ rfl;have u6:V.cell? ⟨w.heap.size,6,none⟩=some (.string ut):=(un HU0).ub.c 6 _ rfl
 go_wp2_with (first
  | (go_at_call 206;go_must(refine(un H38 _ (un HB0)).mono ?_;rintro e W1 ⟨rfl,hb⟩;have HU1:=zAb ((un HU0).later hb);have HB1:=zAb (bt HB0 hb);clear hb u0 u1 u2 u3 u4 u5 u6;have u0:W1.cell? ⟨w.heap.size,0,none⟩=some (.string nm):=(un HU1).ub.c 0 _ rfl;have u1:W1.cell? ⟨w.heap.size,1,none⟩=some (.string sy):=(un HU1).ub.c 1 _ rfl;have u2:W1.cell? ⟨w.heap.size,2,none⟩=some (.string vn):=(un HU1).ub.c 2 _ rfl;have u3:W1.cell? ⟨w.heap.size,3,none⟩=some (.string vd):=(un HU1).ub.c 3 _ rfl;have u4:W1.cell? ⟨w.heap.size,4,none⟩=some (.string sn):=(un HU1).ub.c 4 _ rfl;have u5:W1.cell? ⟨w.heap.size,5,none⟩=some (.string sd):=(un HU1).ub.c 5 _ rfl;have u6:W1.cell? ⟨w.heap.size,6,none⟩=some (.string ut):=(un HU1).ub.c 6 _ rfl))
  | (go_at_call 169;go_must(refine(un H36 _ (un HB1)).mono ?_;rintro e W2 ⟨rfl,hb⟩;have HU2:=zAb ((un HU1).later hb);have HB2:=zAb (bt HB1 hb);clear hb u0 u1 u2 u3 u4 u5 u6;have u0:W2.cell? ⟨w.heap.size,0,none⟩=some (.string nm):=(un HU2).ub.c 0 _ rfl;have u1:W2.cell? ⟨w.heap.size,1,none⟩=some (.string sy):=(un HU2).ub.c 1 _ rfl;have u2:W2.cell? ⟨w.heap.size,2,none⟩=some (.string vn):=(un HU2).ub.c 2 _ rfl;have u3:W2.cell? ⟨w.heap.size,3,none⟩=some (.string vd):=(un HU2).ub.c 3 _ rfl;have u4:W2.cell? ⟨w.heap.size,4,none⟩=some (.string sn):=(un HU2).ub.c 4 _ rfl;have u5:W2.cell? ⟨w.heap.size,5,none⟩=some (.string sd):=(un HU2).ub.c 5 _ rfl;have u6:W2.cell? ⟨w.heap.size,6,none⟩=some (.string ut):=(un HU2).ub.c 6 _ rfl))
  | (go_at_call 172;go_must(refine(un H39 _ (un HB2)).mono ?_;rintro e W3 ⟨rfl,hb⟩;have HU3:=zAb ((un HU2).later hb);have HB3:=zAb (bt HB2 hb);clear hb u0 u1 u2 u3 u4 u5 u6;have u0:W3.cell? ⟨w.heap.size,0,none⟩=some (.string nm):=(un HU3).ub.c 0 _ rfl;have u1:W3.cell? ⟨w.heap.size,1,none⟩=some (.string sy):=(un HU3).ub.c 1 _ rfl;have u2:W3.cell? ⟨w.heap.size,2,none⟩=some (.string vn):=(un HU3).ub.c 2 _ rfl;have u3:W3.cell? ⟨w.heap.size,3,none⟩=some (.string vd):=(un HU3).ub.c 3 _ rfl;have u4:W3.cell? ⟨w.heap.size,4,none⟩=some (.string sn):=(un HU3).ub.c 4 _ rfl;have u5:W3.cell? ⟨w.heap.size,5,none⟩=some (.string sd):=(un HU3).ub.c 5 _ rfl;have u6:W3.cell? ⟨w.heap.size,6,none⟩=some (.string ut):=(un HU3).ub.c 6 _ rfl)))
 go_ret
 exact⟨rfl,un HB3⟩
theorem rightC:∀k,k<13→∀W:World,Calls Tryz.prog 143 #[.agg (cT k)] W fun r w'=>r=.returned (.bool true)∧Bw W w'
 | 0,_=>fun W=>zAx ⟨#[97,118,111,103,97,100,114,111]⟩ ⟨#[110,97,118,111]⟩ ⟨#[54,48,50,50,49,52,48,55,54,48,48,48,48,48,48,48,48,48,48,48,48,48,48,48]⟩ ⟨#[49]⟩ ⟨#[48]⟩ ⟨#[49]⟩ ⟨#[109,111,108,94,45,49]⟩ 0 (by decide) W (fun V _=>zAv _ _ V (zDk (by decide +kernel)) (zDk (by decide +kernel))) (fun V _=>zBj _ _ (0) 0 (by decide +kernel) V (zAt _ _ 0 1 (0))) (fun V _=>zBd _ _ _ V (zAt _ _ 602214076000000000000000 1 (602214076000000000000000))) (by decide +kernel) (by decide +kernel)
 | 1,_=>fun W=>zAx ⟨#[98,111,108,116,122,109,97,110,110]⟩ ⟨#[107,98,111,108,116,122]⟩ ⟨#[49,51,56,48,54,52,57]⟩ ⟨#[49,48,48,48,48,48,48,48,48,48,48,48,48,48,48,48,48,48,48,48,48,48,48,48,48,48,48,48,48,48]⟩ ⟨#[48]⟩ ⟨#[49]⟩ ⟨#[109,94,50,32,107,103,32,115,94,45,50,32,75,94,45,49]⟩ 0 (by decide) W (fun V _=>zAv _ _ V (zDk (by decide +kernel)) (zDk (by decide +kernel))) (fun V _=>zBj _ _ (0) 0 (by decide +kernel) V (zAt _ _ 0 1 (0))) (fun V _=>zBd _ _ _ V (zAt _ _ 1380649 100000000000000000000000000000 (1380649 / 100000000000000000000000000000))) (by decide +kernel) (by decide +kernel)
 | 2,_=>fun W=>zAx ⟨#[103,97,115]⟩ ⟨#[114,103,97,115]⟩ ⟨#[50,48,55,56,54,49,53,54,53,52,53,51,56,51,49]⟩ ⟨#[50,53,48,48,48,48,48,48,48,48,48,48,48,48]⟩ ⟨#[48]⟩ ⟨#[49]⟩ ⟨#[109,94,50,32,107,103,32,115,94,45,50,32,75,94,45,49,32,109,111,108,94,45,49]⟩ 0 (by decide) W (fun V _=>zAv _ _ V (zDk (by decide +kernel)) (zDk (by decide +kernel))) (fun V _=>zBj _ _ (0) 0 (by decide +kernel) V (zAt _ _ 0 1 (0))) (fun V _=>zBd _ _ _ V (zAt _ _ 207861565453831 25000000000000 (207861565453831 / 25000000000000))) (by decide +kernel) (by decide +kernel)
 | 3,_=>fun W=>zAx ⟨#[99,104,97,114,103,101]⟩ ⟨#[101,99,104,97,114,103,101]⟩ ⟨#[56,48,49,48,56,56,51,49,55]⟩ ⟨#[53,48,48,48,48,48,48,48,48,48,48,48,48,48,48,48,48,48,48,48,48,48,48,48,48,48,48,48]⟩ ⟨#[48]⟩ ⟨#[49]⟩ ⟨#[65,32,115]⟩ 0 (by decide) W (fun V _=>zAv _ _ V (zDk (by decide +kernel)) (zDk (by decide +kernel))) (fun V _=>zBj _ _ (0) 0 (by decide +kernel) V (zAt _ _ 0 1 (0))) (fun V _=>zBd _ _ _ V (zAt _ _ 801088317 5000000000000000000000000000 (801088317 / 5000000000000000000000000000))) (by decide +kernel) (by decide +kernel)
 | 4,_=>fun W=>zAx ⟨#[102,97,114,97,100,97,121]⟩ ⟨#[102,102,97,114]⟩ ⟨#[49,50,48,54,48,54,54,54,53,49,53,52,49,51,55,53,50,51]⟩ ⟨#[49,50,53,48,48,48,48,48,48,48,48,48,48]⟩ ⟨#[48]⟩ ⟨#[49]⟩ ⟨#[65,32,115,32,109,111,108,94,45,49]⟩ 0 (by decide) W (fun V _=>zAv _ _ V (zDk (by decide +kernel)) (zDk (by decide +kernel))) (fun V _=>zBj _ _ (0) 0 (by decide +kernel) V (zAt _ _ 0 1 (0))) (fun V _=>zBd _ _ _ V (zAt _ _ 120606665154137523 1250000000000 (120606665154137523 / 1250000000000))) (by decide +kernel) (by decide +kernel)
 | 5,_=>fun W=>zAx ⟨#[101,108,101,99,116,114,111,110]⟩ ⟨#[109,101,108,101,99]⟩ ⟨#[49,56,50,49,56,55,54,55,52,48,51]⟩ ⟨#[50,48,48,48,48,48,48,48,48,48,48,48,48,48,48,48,48,48,48,48,48,48,48,48,48,48,48,48,48,48,48,48,48,48,48,48,48,48,48,48,48]⟩ ⟨#[55]⟩ ⟨#[50,53,48,48,48,48,48,48,48,48,48,48,48,48,48,48,48,48,48,48,48,48,48,48,48,48,48,48,48,48,48,48,48,48,48,48,48,48,48,48,48]⟩ ⟨#[107,103]⟩ 1 (by decide) W (fun V _=>zAv _ _ V (zDk (by decide +kernel)) (zDk (by decide +kernel))) (fun V _=>zBj _ _ (7 / 25000000000000000000000000000000000000000) 1 (by decide +kernel) V (zAt _ _ 7 25000000000000000000000000000000000000000 (7 / 25000000000000000000000000000000000000000))) (fun V _=>zBd _ _ _ V (zAt _ _ 18218767403 20000000000000000000000000000000000000000 (18218767403 / 20000000000000000000000000000000000000000))) (by decide +kernel) (by decide +kernel)
 | 6,_=>fun W=>zAx ⟨#[103,114,97,118,105,116,97,116,105,111,110]⟩ ⟨#[103,103,114,97,118]⟩ ⟨#[54,54,55,52,51]⟩ ⟨#[49,48,48,48,48,48,48,48,48,48,48,48,48,48,48,48]⟩ ⟨#[51]⟩ ⟨#[50,48,48,48,48,48,48,48,48,48,48,48,48,48,48,48]⟩ ⟨#[109,94,51,32,107,103,94,45,49,32,115,94,45,50]⟩ 1 (by decide) W (fun V _=>zAv _ _ V (zDk (by decide +kernel)) (zDk (by decide +kernel))) (fun V _=>zBj _ _ (3 / 2000000000000000) 1 (by decide +kernel) V (zAt _ _ 3 2000000000000000 (3 / 2000000000000000))) (fun V _=>zBd _ _ _ V (zAt _ _ 66743 1000000000000000 (66743 / 1000000000000000))) (by decide +kernel) (by decide +kernel)
 | 7,_=>fun W=>zAx ⟨#[103,114,97,118,105,116,121]⟩ ⟨#[103,101,97,114,116,104]⟩ ⟨#[49,57,54,49,51,51]⟩ ⟨#[50,48,48,48,48]⟩ ⟨#[48]⟩ ⟨#[49]⟩ ⟨#[109,32,115,94,45,50]⟩ 0 (by decide) W (fun V _=>zAv _ _ V (zDk (by decide +kernel)) (zDk (by decide +kernel))) (fun V _=>zBj _ _ (0) 0 (by decide +kernel) V (zAt _ _ 0 1 (0))) (fun V _=>zBd _ _ _ V (zAt _ _ 196133 20000 (196133 / 20000))) (by decide +kernel) (by decide +kernel)
 | 8,_=>fun W=>zAx ⟨#[108,105,103,104,116]⟩ ⟨#[99,108,105,103,104,116]⟩ ⟨#[50,57,57,55,57,50,52,53,56]⟩ ⟨#[49]⟩ ⟨#[48]⟩ ⟨#[49]⟩ ⟨#[109,32,115,94,45,49]⟩ 0 (by decide) W (fun V _=>zAv _ _ V (zDk (by decide +kernel)) (zDk (by decide +kernel))) (fun V _=>zBj _ _ (0) 0 (by decide +kernel) V (zAt _ _ 0 1 (0))) (fun V _=>zBd _ _ _ V (zAt _ _ 299792458 1 (299792458))) (by decide +kernel) (by decide +kernel)
 | 9,_=>fun W=>zAx ⟨#[112,108,97,110,99,107]⟩ ⟨#[104,112,108,97,110,99,107]⟩ ⟨#[49,51,50,53,50,49,52,48,51]⟩ ⟨#[50,48,48,48,48,48,48,48,48,48,48,48,48,48,48,48,48,48,48,48,48,48,48,48,48,48,48,48,48,48,48,48,48,48,48,48,48,48,48,48,48,48]⟩ ⟨#[48]⟩ ⟨#[49]⟩ ⟨#[109,94,50,32,107,103,32,115,94,45,49]⟩ 0 (by decide) W (fun V _=>zAv _ _ V (zDk (by decide +kernel)) (zDk (by decide +kernel))) (fun V _=>zBj _ _ (0) 0 (by decide +kernel) V (zAt _ _ 0 1 (0))) (fun V _=>zBd _ _ _ V (zAt _ _ 132521403 200000000000000000000000000000000000000000 (132521403 / 200000000000000000000000000000000000000000))) (by decide +kernel) (by decide +kernel)
 | 10,_=>fun W=>zAx ⟨#[106,111,115,101,112,104,115,111,110]⟩ ⟨#[107,106,111,115]⟩ ⟨#[50,49,51,54,50,51,53,53,49,50,48,48,48,48,48,48,48,48,48,48,48,48,48]⟩ ⟨#[52,52,49,55,51,56,48,49]⟩ ⟨#[48]⟩ ⟨#[49]⟩ ⟨#[109,94,45,50,32,107,103,94,45,49,32,115,94,50,32,65]⟩ 0 (by decide) W (fun V _=>zAv _ _ V (zDk (by decide +kernel)) (zDk (by decide +kernel))) (fun V _=>zBj _ _ (0) 0 (by decide +kernel) V (zAt _ _ 0 1 (0))) (fun V _=>zBd _ _ _ V (zAt _ _ 21362355120000000000000 44173801 (21362355120000000000000 / 44173801))) (by decide +kernel) (by decide +kernel)
 | 11,_=>fun W=>zAx ⟨#[107,108,105,116,122,105,110,103]⟩ ⟨#[114,107,108,105,116,122]⟩ ⟨#[53,53,50,49,55,50,53,49,50,53,48,48,48,48,48,48,48,48,48,48,48,48]⟩ ⟨#[50,49,51,57,49,52,49,54,51,56,55,55,57,54,52,49,54,51]⟩ ⟨#[48]⟩ ⟨#[49]⟩ ⟨#[109,94,50,32,107,103,32,115,94,45,51,32,65,94,45,50]⟩ 0 (by decide) W (fun V _=>zAv _ _ V (zDk (by decide +kernel)) (zDk (by decide +kernel))) (fun V _=>zBj _ _ (0) 0 (by decide +kernel) V (zAt _ _ 0 1 (0))) (fun V _=>zBd _ _ _ V (zAt _ _ 5521725125000000000000 213914163877964163 (5521725125000000000000 / 213914163877964163))) (by decide +kernel) (by decide +kernel)
 | 12,_=>fun W=>zAx ⟨#[112,114,111,116,111,110]⟩ ⟨#[109,112,114,111,116]⟩ ⟨#[49,54,55,50,54,50,49,57,50,51,54,57]⟩ ⟨#[49,48,48,48,48,48,48,48,48,48,48,48,48,48,48,48,48,48,48,48,48,48,48,48,48,48,48,48,48,48,48,48,48,48,48,48,48,48,48]⟩ ⟨#[53,49]⟩ ⟨#[49,48,48,48,48,48,48,48,48,48,48,48,48,48,48,48,48,48,48,48,48,48,48,48,48,48,48,48,48,48,48,48,48,48,48,48,48,48,48]⟩ ⟨#[107,103]⟩ 1 (by decide) W (fun V _=>zAv _ _ V (zDk (by decide +kernel)) (zDk (by decide +kernel))) (fun V _=>zBj _ _ (51 / 100000000000000000000000000000000000000) 1 (by decide +kernel) V (zAt _ _ 51 100000000000000000000000000000000000000 (51 / 100000000000000000000000000000000000000))) (fun V _=>zBd _ _ _ V (zAt _ _ 167262192369 100000000000000000000000000000000000000 (167262192369 / 100000000000000000000000000000000000000))) (by decide +kernel) (by decide +kernel)
 | _+13,h=>absurd h (by omega)
def DDc:Nat→DataW Unit
 | 0=>.map []
 | k+1=>((DDc k).put (.string (fNm k).data.toList) (.lit (.bool true))).put (.string (fSy k).data.toList) (.lit (.bool true))
theorem hasC_nm:∀k,k<13→Maps.has (DDc k) (.string (fNm k).data.toList)=false
 | 0,_=>by kernel_rfl
 | 1,_=>by kernel_rfl
 | 2,_=>by kernel_rfl
 | 3,_=>by kernel_rfl
 | 4,_=>by kernel_rfl
 | 5,_=>by kernel_rfl
 | 6,_=>by kernel_rfl
 | 7,_=>by kernel_rfl
 | 8,_=>by kernel_rfl
 | 9,_=>by kernel_rfl
 | 10,_=>by kernel_rfl
 | 11,_=>by kernel_rfl
 | 12,_=>by kernel_rfl
 | _+13,h=>absurd h (by omega)
theorem hasC_sy:∀k,k<13→Maps.has (DDc k) (.string (fSy k).data.toList)=false
 | 0,_=>by kernel_rfl
 | 1,_=>by kernel_rfl
 | 2,_=>by kernel_rfl
 | 3,_=>by kernel_rfl
 | 4,_=>by kernel_rfl
 | 5,_=>by kernel_rfl
 | 6,_=>by kernel_rfl
 | 7,_=>by kernel_rfl
 | 8,_=>by kernel_rfl
 | 9,_=>by kernel_rfl
 | 10,_=>by kernel_rfl
 | 11,_=>by kernel_rfl
 | 12,_=>by kernel_rfl
 | _+13,h=>absurd h (by omega)
theorem small_c:∀k,k<13→(fNm k).size≤maxLen∧(fSy k).size≤maxLen
 | 0,_=>⟨by decide,by decide⟩
 | 1,_=>⟨by decide,by decide⟩
 | 2,_=>⟨by decide,by decide⟩
 | 3,_=>⟨by decide,by decide⟩
 | 4,_=>⟨by decide,by decide⟩
 | 5,_=>⟨by decide,by decide⟩
 | 6,_=>⟨by decide,by decide⟩
 | 7,_=>⟨by decide,by decide⟩
 | 8,_=>⟨by decide,by decide⟩
 | 9,_=>⟨by decide,by decide⟩
 | 10,_=>⟨by decide,by decide⟩
 | 11,_=>⟨by decide,by decide⟩
 | 12,_=>⟨by decide,by decide⟩
 | _+13,h=>absurd h (by omega)
theorem cT_is:∀k,IsC (cT k)
 | 0=>⟨_,_,_,_,_,_,_,rfl⟩
 | 1=>⟨_,_,_,_,_,_,_,rfl⟩
 | 2=>⟨_,_,_,_,_,_,_,rfl⟩
 | 3=>⟨_,_,_,_,_,_,_,rfl⟩
 | 4=>⟨_,_,_,_,_,_,_,rfl⟩
 | 5=>⟨_,_,_,_,_,_,_,rfl⟩
 | 6=>⟨_,_,_,_,_,_,_,rfl⟩
 | 7=>⟨_,_,_,_,_,_,_,rfl⟩
 | 8=>⟨_,_,_,_,_,_,_,rfl⟩
 | 9=>⟨_,_,_,_,_,_,_,rfl⟩
 | 10=>⟨_,_,_,_,_,_,_,rfl⟩
 | 11=>⟨_,_,_,_,_,_,_,rfl⟩
 | _+12=>⟨_,_,_,_,_,_,_,rfl⟩
def usC (k:Nat):List (Array Value):=(List.range k).map cT
theorem usC_succ (k:Nat):usC (k+1)=usC k ++ [cT k]:=by unfold usC;rw[List.range_succ,List.map_append];rfl
theorem usC_len (k:Nat):(usC k).length=k:=by simp[usC]
theorem usC_is (n k:Nat) (u:Array Value) (h:(usC n)[k]?=some u):IsC u:=by
 unfold usC at h
 rw[List.getElem?_map]at h;obtain⟨i,_,rfl⟩:=Option.map_eq_some_iff.1 h;exact cT_is i
theorem RC.withK {W:World} {K K':Nat→Nat→Array Value→Prop} {base r m n:Nat} {vs:Value} {ps:List Nat} {us:List (Array Value)} {D:DataW Unit} (h:RC W K base r m vs ps us n D) (hk:∀(g ty:Nat) (us:Array Value),K' g ty us→ty≠116∧ty≠159∧zAc W g ty us):RC W K' base r m vs ps us n D:=⟨h.k0,h.row,h.mp,h.un,h.bs,hk⟩
theorem keepC (K:Nat→Nat→Array Value→Prop) (k:Nat) (hk:k<13) (base r m:Nat) (vs:Value) (ps:List Nat) (w0 W:World) (h:RC W K base r m vs ps (usC k) (2*k) (DDc k)) (hl:ps.length=k) (hb:Below base w0 W) (hm:base≤m) (hr:base≤r) :
  Calls Tryz.prog 62 #[.pointer (some ⟨r,0,none⟩),.agg (cT k)] W fun e w'=>e=.returned (I 0)∧(∃p v',RC w' K base r m v' (ps ++ [p]) (usC (k+1)) (2*(k+1)) (DDc (k+1)))∧Below base w0 w':=by
 obtain⟨a2,a3,a4,a5,a6,hct⟩:=cT_words k hk;have hrc:=rightC k hk;rw[usC_succ];rw[hct]at hrc ⊢;exact keep_any _ _ _ _ _ _ _ base r m (2*k) vs ps (usC k) (DDc k) w0 W h (by rw[usC_len,hl]) hb hm hr (by omega) (by omega) (small_c k hk).1 (small_c k hk).2 (fun V _=>hrc V) (hasC_nm k hk) (hasC_sy k hk)
theorem putAt_out:∀(l:List Value) (vs:Array Value) (o j:Nat),(j<o∨o+l.length≤j)→(zDg vs o l)[j]?=vs[j]?
  | [],_,_,_,_=>rfl
  | x :: l,vs,o,j,h=>by
    rw[List.length_cons]at h
    rw[zDg,putAt_out l _ (o+1) j (by omega),Array.getElem?_setIfInBounds,if_neg (by omega)]
theorem putAt_in:∀(l:List Value) (vs:Array Value) (o i:Nat) (v:Value),o+l.length≤vs.size→l[i]?=some v→(zDg vs o l)[o+i]?=some v
  | [],_,_,_,_,_,h=>by simp at h
  | x :: l,vs,o,0,v,hs,h=>by
    obtain rfl:x=v:=by simpa using h
    rw[List.length_cons]at hs
    show(zDg (vs.setIfInBounds o x) (o+1) l)[o]?=some x
    rw[putAt_out l _ (o+1) o (Or.inl (by omega))]
    have:o<vs.size:=by omega
    simp[this]
  | x :: l,vs,o,i+1,v,hs,h=>by
    rw[List.length_cons]at hs
    have:=putAt_in l (vs.setIfInBounds o x) (o+1) i v (by simp;omega) (by simpa using h)
    rw[zDg,show o+(i+1)=o+1+i by omega]
    exact this
def DoneA (left:Lit→Bool) (A:Array Value):Prop:=A.size=91∧∀k,k<13→left (.string (fNm k).data.toList)=false→∀i v,(cT k)[i]?=some v→A[k*7+i]?=some v
theorem DoneA.put {left:Lit→Bool} {A:Array Value} (h:DoneA left A) (k:Nat) (hk:k<13):DoneA (fun z=>left z && !z.sameKey (.string (fNm k).data.toList)) (zDg A (k*7) (cT k).toList):=by
  have hs:(cT k).toList.length=7:=by rw[Array.length_toList];exact cT_size k hk
  refine⟨by rw[size_putAt];exact h.1,fun j hj hl i v hv=>?_⟩
  by_cases e:j=k
  · subst e
    exact putAt_in _ _ _ _ _ (by rw[hs,h.1];omega) (by rw[Array.getElem?_toList];exact hv)
  · have hi:i<7:=by have:=(Array.getElem?_eq_some_iff.1 hv).1;rw[cT_size j hj]at this;exact this
    rw[putAt_out _ _ _ _ (by rw[hs];omega)]
    refine h.2 j hj ?_ i v hv
    simpa [fNm_other j hj k hk e] using hl
theorem ones_cT:∀k,k<13→(cT k).all (·.oneCell')=true:=by decide +kernel
theorem put_none (a:Act) (v:Value):a.put none v=a:=rfl
theorem keepC2 (K:Nat→Nat→Array Value→Prop) (k:Nat) (hk:k<13) (ct:Array Value) (hct:cT k=ct) (base r m:Nat) (vs:Value) (ps:List Nat) (w0 W:World) (h:RC W K base r m vs ps (usC k) (2*k) (DDc k)) (hl:ps.length=k) (hb:Below base w0 W) (hm:base≤m) (hr:base≤r) :
    Calls Tryz.prog 62 #[.pointer (some ⟨r,0,none⟩),.agg ct] W fun e w'=>e=.returned (.int .i64 0)∧(∃p v',RC w' K base r m v' (ps ++ [p]) (usC (k+1)) (2*(k+1)) (DDc (k+1)))∧Below base w0 w':=by
  rw[←hct]
  exact keepC K k hk base r m vs ps w0 W h hl hb hm hr
theorem row_mid {W:World} {gO k:Nat} {A:Array Value} (hA:zAc W gO 45 A) (hk:∀i v,(cT k)[i]?=some v→A[k*7+i]?=some v) (l:List Value) (hct:cT k=l.toArray):W.rangeAt gO (k*7) l:=fun i v e=>hA.ub.c (k*7+i) v (hk i v (by rw[hct];simpa using e))
theorem size_fcD:Maps.size (fcD 13)=13:=by kernel_rfl
theorem below_grownBy {W V:World} (hb:Below W.heap.size W V):W.grownBy V none:=⟨hb.os,hb.tape,hb.output,hb.size,fun k hk _=>hb.block k hk⟩
theorem zGk (g:Nat):∀(l:List Value) (W:World) (o:Nat),W.grownBy (W.setCells g o l) (some g)
  | [],W,_=>World.grownBy.refl W _
  | v :: l,W,o=>by
    have h1:W.grownBy (W.setCell ⟨g,o,none⟩ v) (some g):=⟨rfl,rfl,rfl,by simp,fun k _ hk=>Below.heap_setCell W ⟨g,o,none⟩ v k (fun e=>hk (by rw[e]))⟩
    exact h1.andThen (zGk g l _ (o+1)) (fun j hj=>Or.inr hj)
theorem zFv {W V:World} {b r n cnt:Nat} {D:DataW Unit} {left:Lit→Bool} (h:W.ranges Tryz.prog 9 fcR b r n D left cnt) (hb:Below W.heap.size W V):V.ranges Tryz.prog 9 fcR b r n D left cnt:=h.kept (below_grownBy hb) (by simp) (by simp)
theorem info45a:(Tryz.prog.info? 45).map (fun i=>(i.zero,i.size,i.bytes))=some (some (.agg zC),7,112):=by kernel_rfl
theorem under41a:Tryz.prog.underlying 41=some (.slice 45):=by kernel_rfl
theorem natAll (w:World) (hsp:Spc w) (htb:Tab w):Calls Tryz.prog 23 #[] w fun e w'=>∃v,e=.returned v∧w'.ownsRow w.heap.size 45 7 v 13 (zHq (usC 13) 13)∧Below w.heap.size w w':=by
  obtain⟨i0,hi,hz0,hz1,hz2⟩:=info_parts info45a
  have HI0:=zAb hi;have HZ0:=zAb hz0;have HZ1:=zAb hz1;have HZ2:=zAb hz2
  have HF:Hid (Calls Tryz.prog 60 #[] w fun r w'=>r=.returned (.map (some w.heap.size))∧w'.ownsMap Tryz.prog 9 fcR w.heap.size 13 (fcD 13)∧Below w.heap.size w w'):=facts_any w
  have HT:Hid (∀k,k<13→∀W,Below w.heap.size w W→Calls Tryz.prog 61 #[fcV k,.string (fNm k)] W fun r w'=>r=.returned (.agg (cT k))∧Below W.heap.size W w'):=fun k hk W hb=>told_at k hk W (hsp.later hb) (htb.later hb)
  clear hi hz0 hz1 hz2 hsp htb
  go_enter Tryz.func23,Tryz.ntmps23
  go_upto_region 2 with (go_at_call 60;go_must(refine(un HF).mono ?_;rintro e w1 ⟨rfl,hown,hb⟩;have HO:=zAb hown;have HB1:=zAb hb;clear hown hb))
  clear HF
  go_upto_region 3 with (first
    | (at_len;go_must(refine wpList_len_own _ rfl _ 99 rfl 9 103 zDm fcR w.heap.size 13 (fcD 13) rfl (un HO) ?_;rw[size_fcD]))
    | (at_make;go_must(refine wpList_make_full _ rfl _ _ 41 rfl w1.heap.size 45 i0 (.agg zC) 7 under41a (un HI0) (un HZ0) (un HZ1) .i64 .i64 _ _ 13 rfl rfl rfl rfl (by rw[un HZ2];decide) (by unfold maxLen;omega) (Nat.le_refl _) ?_;intro w2 hown2 hgrow2;have HO2:=zAb hown2;have HG2:=zAb hgrow2;clear hown2 hgrow2)))
  obtain⟨gO,hgO⟩:∃gO,gO=w1.heap.size:=⟨_,rfl⟩
  have hwO:w.heap.size<gO:=by rw[hgO];exact(un HO).lt
  obtain⟨cur,hcur,hcz⟩:∃cur,zAc w2 gO 45 cur∧cur.size=91:=by
    rcases(un HO2).2 with ⟨e,_⟩|⟨g,cap,cur,e,_,hg,_,_,hs,_⟩
    · cases e
    · simp only[Value.slice.injEq,Option.some.injEq,Addr.mk.injEq]at e
      obtain⟨⟨rfl,_⟩,_,rfl⟩:=e
      exact⟨cur,by rw[hgO];exact hg,hs⟩
  have HC2:=zAb hcur;have HCZ:=zAb hcz
  have HM2:Hid (w2.ownsMap Tryz.prog 9 fcR w.heap.size 13 (fcD 13)):=(un HO).kept (un HG2) (by simp)
  have HB2:Hid (Below w.heap.size w w2):=(un HB1).grown (un HG2) (un HB1).size (fun j hj=>by cases hj)
  have hOw:gO<w2.heap.size:=hcur.lt
  rw[←hgO]
  clear hgO hcur hcz HO HO2 HG2 HB1 HI0 HZ0 HZ1 HZ2
  go_upto_region 4 with (at_range;refine wpList_range_own _ rfl _ 99 rfl 9 103 (string_keyed Tryz.underlying9) zDm fcR w.heap.size 13 (fcD 13) rfl (un HM2) ?_;intro w3 hrg hgr hsz;go_frame)
  obtain⟨gI,hgI⟩:∃gI,gI=w2.heap.size:=⟨_,rfl⟩
  have HRG:Hid (w3.ranges Tryz.prog 9 fcR w.heap.size gI 13 (fcD 13) (Maps.has (fcD 13)) (Maps.size (fcD 13))):=by rw[hgI];exact hrg
  have HB3:Hid (Below w.heap.size w w3):=(un HB2).grown hgr (un HB2).size (fun j hj=>by cases hj)
  have HC3:Hid (zAc w3 gO 45 cur):=(hgr.block gO hOw (by simp)).trans (un HC2)
  have HNE:Hid (gI≠gO):=by show gI≠gO;omega
  have HNM:Hid (w.heap.size≠gO):=by show w.heap.size≠gO;omega
  have HBI:Hid (w.heap.size≤gI):=by show w.heap.size≤gI;omega
  have HBO:Hid (w.heap.size≤gO):=by show w.heap.size≤gO;omega
  rw[←hgI]
  clear hrg hgr hsz hgI hOw hwO HM2 HB2 HC2
  go_loopw [3] (fun _ wr=>∃(left:Lit→Bool) (cnt:Nat) (A:Array Value),Hid (wr.ranges Tryz.prog 9 fcR w.heap.size gI 13 (fcD 13) left cnt)∧Hid (∀kl,left kl=true→Maps.has (fcD 13) kl=true)∧Hid (DoneA left A)∧Hid (zAc wr gO 45 A)∧Hid (Below w.heap.size w wr)) (fun _ wr=>wr.rangeLeft w.heap.size gI)
  case atStart=>exact⟨_,_,cur,HRG,fun _ h=>h,⟨un HCZ,fun k hk h=>absurd h (by rw[(at_name k hk (.lit (.int .i64 0))).2];decide)⟩,HC3,HB3⟩
  case round=>
    clear HRG HC3 HB3 HCZ
    obtain⟨left,cnt,A,HG,HL,HD,HA,HB⟩:=hrel
    go_wp2_with (at_next;go_loud (refine wpList_next_ranges _ rfl _ rfl 9 (string_keyed Tryz.underlying9) fcR (fun x:ByteArray=>.string x) (fun v:Value=>v) (fun key kl h=>zFt Tryz.underlying9 h) (fun v y _=>⟨v,rfl⟩) w.heap.size gI 13 (fcD 13) left cnt rfl (un HG) ?_ ?_))
    · intro _ hl0
      have HAll:Hid (∀k,k<13→∀i v,(cT k)[i]?=some v→A[k*7+i]?=some v):=fun k hk=>(un HD).2 k hk (hl0 _)
      clear hl0 HL HG HD HT
      go_upto_region 8 with (go_at_call 32;go_must(refine(newC_any _).mono ?_;rintro e wn ⟨rfl,hr,hbn⟩;have HRN:=zAb hr;have HBN:=zAb hbn;clear hr hbn))
      obtain⟨r,hr⟩:∃r,r=wr.heap.size+1:=⟨_,rfl⟩
      obtain⟨bs,hbs⟩:∃bs,bs=wr.heap.size:=⟨_,rfl⟩
      have HAN:Hid (zAc wn gO 45 A):=(un HA).later (un HBN)
      rw[←hr,←hbs]at HRN
      have HBN:Hid (Below bs wr wn):=by rw[hbs];exact HBN
      have HR0:Hid (RC wn (fun b ty us=>b=gO∧ty=45∧us=A) bs r bs (.slice none 0 0) [] [] 0 (.map [])):=RC.withK (un HRN) (by
        rintro g ty us ⟨rfl,rfl,rfl⟩
        exact⟨by decide,by decide,un HAN⟩)
      have HBR:Hid (bs≤r):=by show bs≤r;omega
      have HBB:Hid (w.heap.size≤bs):=by rw[hbs];exact(un HB).size
      have HBX:Hid (∀W,Below bs wr W→Below w.heap.size w W):=fun W h=>(un HB).trans (h.mono (un HBB))
      rw[←hr]
      clear hr hbs HAN HRN HB HA
      obtain⟨wp,hwp⟩:∃wp,wp=wr:=⟨_,rfl⟩
      subst hwp
      go_wp2_with fail
      go_loopw [29] (fun s29 wq=>∃(k:Nat) (ps:List Nat) (vs:Value),k≤13∧s29=.int .i64 (k:Int)∧Hid (ps.length=k)∧Hid (RC wq (fun b ty us=>b=gO∧ty=45∧us=A) bs r bs vs ps (usC k) (2*k) (DDc k))∧Hid (Below bs wp wq)) (fun s29 _=>13 - (intOf s29).toNat)
      case atStart=>exact⟨0,[],_,by omega,rfl,rfl,HR0,HBN⟩
      case round=>
        clear HR0 HBN
        obtain⟨k,ps,vs,hk,rfl,HPL,HR,HBQ⟩:=hrel
        by_cases hlt:k<13
        · have hkI:(k:Int)<13:=by omega
          have hk0:(0:Int)≤(k:Int):=by omega
          obtain⟨a0,a1,a2,a3,a4,a5,a6,hct⟩:=zDs k hlt
          have HKP:Hid (∀W,RC W (fun b ty us=>b=gO∧ty=45∧us=A) bs r bs vs ps (usC k) (2*k) (DDc k)→Below bs wp W→Calls Tryz.prog 62 #[.pointer (some ⟨r,0,none⟩),.agg #[.string a0,.string a1,.string a2,.string a3,.string a4,.string a5,.string a6]] W fun e w'=>e=.returned (.int .i64 0)∧(∃p v',RC w' (fun b ty us=>b=gO∧ty=45∧us=A) bs r bs v' (ps ++ [p]) (usC (k+1)) (2*(k+1)) (DDc (k+1)))∧Below bs wp w'):=fun W h1 h2=>keepC2 _ k hlt _ hct bs r bs vs ps wp W h1 (un HPL) h2 (Nat.le_refl _) (un HBR)
          have HMD:Hid (wr.rangeAt gO (k*7) [.string a0,.string a1,.string a2,.string a3,.string a4,.string a5,.string a6]):=row_mid ((un HR).ex gO 45 A ⟨rfl,rfl,rfl⟩).2.2 (un HAll k hlt) _ hct
          clear hct
          go_upto_region 11 with (first
            | (refine wpList_load_mid rfl 45 (.tmp 31) rfl gO (k*7) rfl [.string a0,.string a1,.string a2,.string a3,.string a4,.string a5,.string a6] _ (un HMD) Tryz.underlying45 rfl zHn ?_)
            | (refine zAn 45 7 zHn rfl (.tmp 7) (.tmp 32) rfl wr.heap.size zC #[.string a0,.string a1,.string a2,.string a3,.string a4,.string a5,.string a6] rfl rfl rfl rfl (zAc.new _ _ _) (by kernel_rfl) ?_))
          have hb2:Below wr.heap.size wr ((wr.alloc (.cells zC 45)).setRow wr.heap.size #[.string a0,.string a1,.string a2,.string a3,.string a4,.string a5,.string a6]):=below_setRow ((Below.refl _ _).alloc (Nat.le_refl _) _) (Nat.le_refl _) _
          have HX:Hid (zAc ((wr.alloc (.cells zC 45)).setRow wr.heap.size #[.string a0,.string a1,.string a2,.string a3,.string a4,.string a5,.string a6]) wr.heap.size 45 #[.string a0,.string a1,.string a2,.string a3,.string a4,.string a5,.string a6]):=(zAc.new _ _ _).setRow _
          have HR3:=zAb ((un HR).later hb2)
          have HB3:Hid (Below bs wp _):=(un HBQ).trans (hb2.mono (un HR).bs)
          clear hb2 HR HBQ
          generalize (wr.alloc (.cells zC 45)).setRow wr.heap.size #[.string a0,.string a1,.string a2,.string a3,.string a4,.string a5,.string a6]=w5 at *
          generalize wr.heap.size=g7 at *
          have d0:w5.cell? ⟨g7,0,none⟩=some (.string a0):=(un HX).ub.c 0 _ rfl
          have d1:w5.cell? ⟨g7,1,none⟩=some (.string a1):=(un HX).ub.c 1 _ rfl
          have d2:w5.cell? ⟨g7,2,none⟩=some (.string a2):=(un HX).ub.c 2 _ rfl
          have d3:w5.cell? ⟨g7,3,none⟩=some (.string a3):=(un HX).ub.c 3 _ rfl
          have d4:w5.cell? ⟨g7,4,none⟩=some (.string a4):=(un HX).ub.c 4 _ rfl
          have d5:w5.cell? ⟨g7,5,none⟩=some (.string a5):=(un HX).ub.c 5 _ rfl
          have d6:w5.cell? ⟨g7,6,none⟩=some (.string a6):=(un HX).ub.c 6 _ rfl
          go_wp2_with (go_at_call 62;go_must(refine(un HKP _ (un HR3) (un HB3)).mono ?_;rintro e wu ⟨rfl,⟨p,v',hr5⟩,hb5⟩;have HR5:=zAb hr5;have HB5:=zAb hb5;clear hr5 hb5))
          go_roundw
          case rel=>exact⟨k+1,ps ++ [p],v',by omega,by go_num,(by have h:=un HPL;show(ps ++ [p]).length=k+1;rw[List.length_append,h];rfl),HR5,HB5⟩
          case measure=>simp[intOf];omega
        · have hkI:¬(k:Int)<13:=by omega
          have HK:Hid (k=13):=by show k=13;omega
          have HUN:Hid (Calls Tryz.prog 63 #[.pointer (some ⟨r,0,none⟩)] wr fun e w'=>∃v,e=.returned v∧w'.ownsRow wr.heap.size 45 7 v 13 (zHq (usC 13) 13)∧Below wr.heap.size wr w'):=by
            have h:=un HR
            have hl:=un HPL
            rw[un HK]at h hl
            have hh:=consts_any _ _ _ _ _ _ _ _ wr h (by rw[usC_len,hl]) (by omega) (by omega) (usC_is 13)
            rw[hl]at hh
            exact hh
          have HBW:=zAb (un HBX _ (un HBQ))
          go_wp2_with (go_at_call 63;go_must(refine(un HUN).mono ?_;rintro e wt ⟨v,rfl,ho,hbt⟩;have HO:=zAb ho;have HB4:Hid (Below w.heap.size w wt):=(un HBW).trans (hbt.mono (un HBW).size);clear hbt ho))
          go_ret
          exact⟨v,rfl,(un HO).mono (un HBW).size,un HB4⟩
    · intro x v kl d ps w4 cnt4 hkx hlx hv hat hrg4 hlt hg4 hs4 hen
      obtain⟨k,hk,rfl⟩:=has_only kl 13 ((un HL) kl hlx)
      obtain rfl:x=fNm k:=key_inv hkx
      obtain rfl:d=.lit (.int .i64 (k:Int)):=by have h:=hat (.lit (.int .i64 0));rw[(at_name k hk _).1]at h;exact h.symm
      obtain rfl:v=fcV k:=by have h:=(fcR_inv hv (by omega)).2;rw[h];rfl
      have HB4:Hid (Below w.heap.size w w4):=(un HB).grown hg4 (un HB).size (fun j hj=>by cases hj;exact un HBI)
      have HA4:Hid (zAc w4 gO 45 A):=(hg4.block _ (un HA).lt (by have:=un HNE;simp;omega)).trans (un HA)
      have HG4:=zAb hrg4
      have HCK:Hid (cnt=wr.rangeLeft w.heap.size gI):=(un HG).left_eq.symm
      have HLT:Hid (cnt4<cnt):=hlt
      have HTK:=zAb (un HT k hk)
      have HDP:=zAb ((un HD).put k hk)
      have HL2:Hid (∀kl,(left kl && !kl.sameKey (.string (fNm k).data.toList))=true→Maps.has (fcD 13) kl=true):=fun z h=>un HL z (by simp at h;exact h.1)
      have HSZ:Hid (k*7+(cT k).size≤A.size):=by show _≤_;rw[(un HD).1,cT_size k hk];omega
      have HIN:Hid ((Tryz.prog.info? 45).map (·.size)=some (cT k).size):=by show _=_;rw[zHn,cT_size k hk]
      have HON:=zAb (ones_cT k hk)
      have hkI:(k:Int)<13:=by omega
      have hk0:(0:Int)≤(k:Int):=by omega
      clear hrg4 hlt hkx hlx hv hat hg4 hs4 HL HG HD HB HA
      unfold fcV at hen HTK
      generalize cT k=ct at *
      generalize fSy k=sy at *
      generalize fUs k=us at *
      generalize fFn k=f at *
      generalize fNm k=nm at *
      go_upto_region 6 with fail
      have hb2:Below w4.heap.size w4 (w4.alloc (.cells #[.int .i64 (k:Int),.string sy,.string us,.func (.func f) #[] #[]] 103)):=(Below.refl _ _).alloc (Nat.le_refl _) _
      have HX:Hid (zAc (w4.alloc (.cells #[.int .i64 (k:Int),.string sy,.string us,.func (.func f) #[] #[]] 103)) w4.heap.size 103 #[.int .i64 (k:Int),.string sy,.string us,.func (.func f) #[] #[]]):=zAc.new _ _ _
      have HG5:=zAb (zFv (un HG4) hb2)
      have HA5:=zAb ((un HA4).later hb2)
      have HB5:=zAb ((un HB4).trans (hb2.mono (un HB4).size))
      clear hb2 HG4 HA4 HB4
      generalize w4.alloc (.cells #[.int .i64 (k:Int),.string sy,.string us,.func (.func f) #[] #[]] 103)=w5 at *
      generalize w4.heap.size=g8 at *
      have HSS:Hid (∀W',zAc W' g8 103 #[.int .i64 (k:Int),.string sy,.string us,.func (.func f) #[] #[]]→W'.cell? ⟨g8,0,none⟩=some (.int .i64 (k:Int))∧W'.cell? ⟨g8,1,none⟩=some (.string sy)∧W'.cell? ⟨g8,2,none⟩=some (.string us)∧W'.cell? ⟨g8,3,none⟩=some (.func (.func f) #[] #[])):=fun W' h=>⟨h.ub.c 0 _ rfl,h.ub.c 1 _ rfl,h.ub.c 2 _ rfl,h.ub.c 3 _ rfl⟩
      have hbd:Below w5.heap.size w5 w5.drew:=(Below.refl _ _).drew
      have HX6:=zAb ((un HX).later hbd);have HG6:=zAb (zFv (un HG5) hbd);have HA6:=zAb ((un HA5).later hbd);have HB6:=zAb ((un HB5).trans (hbd.mono (un HB5).size))
      have HS0:=zAb (un HSS _ (un HX6))
      clear hbd HX HG5 HA5 HB5 hen
      refine zAi 7 (fun W'=>W'.cell? ⟨g8,0,none⟩=some (.int .i64 (k:Int))∧W'.cell? ⟨g8,1,none⟩=some (.string sy)∧W'.cell? ⟨g8,2,none⟩=some (.string us)∧W'.cell? ⟨g8,3,none⟩=some (.func (.func f) #[] #[])) (fun _=>True) 8 rfl (by kernel_rfl) ?_
      refine zAd (i:=0) (oi:=_) (v:=.slice (some ⟨gO,0,none⟩) 13 13) rfl (by kernel_rfl) (by kernel_rfl) (by kernel_rfl) (by kernel_rfl) (fun _ _ _ h=>h) (Or.inl ⟨by rfl,?_⟩) ⟨un HS0,trivial⟩ ?_
      · intro W' hW
        go_split_ands
        go_simp
      refine zAd (i:=1) (oi:=_) (v:=.pointer (some ⟨g8,0,none⟩)) rfl (by kernel_rfl) (by kernel_rfl) (by kernel_rfl) (by kernel_rfl) (fun _ _ _ h=>h) (Or.inl ⟨by rfl,?_⟩) ⟨un HS0,trivial⟩ ?_
      · intro W' hW
        go_split_ands
        go_simp
      refine zAd (i:=2) (oi:=_) (v:=.int .i64 (k:Int)) rfl (by kernel_rfl) (by kernel_rfl) (by kernel_rfl) (by kernel_rfl) (fun _ _ _ h=>h) (Or.inl ⟨by rfl,?_⟩) ⟨un HS0,trivial⟩ ?_
      · intro W' hW
        go_split_ands
        go_simp
      refine zAd (i:=3) (oi:=_) (v:=.agg #[.int .i64 (k:Int),.string sy,.string us,.func (.func f) #[] #[]]) rfl (by kernel_rfl) (by kernel_rfl) (by kernel_rfl) (by kernel_rfl) (fun _ _ _ h=>h) (Or.inl ⟨by rfl,?_⟩) ⟨un HS0,trivial⟩ ?_
      · intro W' hW
        go_split_ands
        go_simp
      refine zAd (i:=4) (oi:=_) (v:=.string nm) rfl (by kernel_rfl) (by kernel_rfl) (by kernel_rfl) (by kernel_rfl) (fun _ _ _ h=>h) (Or.inl ⟨by rfl,?_⟩) ⟨un HS0,trivial⟩ ?_
      · intro W' hW
        go_split_ands
        go_simp
      clear HS0
      generalize w5.drew=w6 at *
      refine zAg (i:=5) (o:=_) (by kernel_rfl) rfl rfl (fun K hK=>?_)
      go_simp
      refine(un HTK _ (un HB6)).mono ?_
      rintro e w7 ⟨rfl,hb⟩
      have HX7:=zAb ((un HX6).later hb);have HG7:=zAb (zFv (un HG6) hb);have HA7:=zAb ((un HA6).later hb);have HB7:=zAb ((un HB6).trans (hb.mono (un HB6).size))
      clear hb HX6 HG6 HA6 HB6
      refine hK _ _ ⟨un HSS _ (un HX7),trivial⟩ ?_
      clear hK K
      refine zAg (i:=6) (o:=_) (by kernel_rfl) rfl rfl (fun K hK=>?_)
      go_simp
      refine hK _ _ ⟨un HSS _ (un HX7),trivial⟩ ?_
      clear hK K
      refine zAj (i:=7) (o:=_) (by kernel_rfl) rfl rfl (by kernel_rfl) (fun K hK=>?_)
      show Oper.wp _ ⟨none,.store 45 (.tmp 25) (.tmp 24),0,"consts.go:64",_,none⟩ _ _ _ _
      refine wp_store_mid 45 (.tmp 25) (.tmp 24) rfl gO (k*7) ct rfl rfl ((un HA7).there (k*7) ct.size (un HSZ)) (un HIN) (un HON) (hK _ _ trivial ?_)
      clear hK K
      have HG8:=zAb ((un HG7).kept (zGk gO ct.toList w7 (k*7)) (by have:=un HNM;simp;omega) (by have:=un HNE;simp;omega))
      have HA8:=zAb (zAc.setCells ct.toList A w7 (k*7) (un HA7))
      have HB8:=zAb (zCb (un HBO) ct.toList w7 (k*7) (un HB7))
      refine zAm (by kernel_rfl) ?_
      rw[put_none]
      go_wp2_with fail
      go_roundw
      case rel=>exact⟨_,_,_,HG8,HL2,HDP,HA8,HB8⟩
      case measure=>rw[←un HCK,(un HG8).left_eq];exact un HLT
end Go.Proofs.YtliadckofhblnaaGreatDoor.Nt

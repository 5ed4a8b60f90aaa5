/- amount.factor (102). -/
import Derived.Test.YtamoadanapmmeaaGreatDoorLimb3
import Derived.Test.YtamoadanapmmeaaGreatDoorTr4
namespace Go.Proofs.YtamoadanapmmeaaGreatDoor.Tr
open Go.RowKit
theorem ev5 (ev:Nat→Int):∀ k:Nat,k<5→∀ w:World,(Instr.index 125 (.agg #[I (ev 0),I (ev 1),I (ev 2),I (ev 3),I (ev 4)]) (I (k:Int))).run Tryz.prog w=.ok (I (ev k)) w
  | 0,_=>fun w=>by kernel_rfl
  | 1,_=>fun w=>by kernel_rfl
  | 2,_=>fun w=>by kernel_rfl
  | 3,_=>fun w=>by kernel_rfl
  | 4,_=>fun w=>by kernel_rfl
  | _+5,h=>absurd h (by omega)
set_option maxRecDepth 100000 in
set_option maxHeartbeats 4000000 in
theorem dimT (ev:Nat→Int) (nu de:Int) (pa:Array Value) (U Q P:Nat→Nat→Int) (w:World)
    (hU:∀ k:Nat,k<5→∀ j v,([I (U k 0),I (U k 1),I (U k 2),I (U k 3),I (U k 4),I (U k 5),I (U k 6),I (U k 7)]:List Value)[j]?=some v→pa[k*15+2+j]?=some v)
    (hp:∀ k:Nat,k<5→∀ W,Calls Tryz.prog 174 #[.agg #[I (U k 0),I (U k 1),I (U k 2),I (U k 3),I (U k 4),I (U k 5),I (U k 6),I (U k 7)],I (ev k)] W fun e w'=>e=.returned (.tuple #[.agg #[I (Q k 0),I (Q k 1),I (Q k 2),I (Q k 3),I (Q k 4),I (Q k 5),I (Q k 6),I (Q k 7)],I 0])∧Below W.heap.size W w')
    (hm:∀ k:Nat,k<5→∀ b W,OwnU W b 26 #[I (P k 0),I (P k 1),I (P k 2),I (P k 3),I (P k 4),I (P k 5),I (P k 6),I (P k 7),I (Q k 0),I (Q k 1),I (Q k 2),I (Q k 3),I (Q k 4),I (Q k 5),I (Q k 6),I (Q k 7)]→Calls Tryz.prog 175 #[.slice (some ⟨b,0,none⟩) 2 2] W fun e w'=>e=.returned (.tuple #[.agg #[I (P (k+1) 0),I (P (k+1) 1),I (P (k+1) 2),I (P (k+1) 3),I (P (k+1) 4),I (P (k+1) 5),I (P (k+1) 6),I (P (k+1) 7)],I 0])∧Below W.heap.size W w')
    (h0:#[I (P 0 0),I (P 0 1),I (P 0 2),I (P 0 3),I (P 0 4),I (P 0 5),I (P 0 6),I (P 0 7)]=(#[I 0,I 0,I 0,I 0,I 0,I 0,I 0,I 0]:Array Value)) :
    Calls Tryz.prog 101 #[.agg #[I (ev 0),I (ev 1),I (ev 2),I (ev 3),I (ev 4),I nu,I de],.agg pa] w fun r w'=>r=.returned (.agg #[I (P 5 0),I (P 5 1),I (P 5 2),I (P 5 3),I (P 5 4),I (P 5 5),I (P 5 6),I (P 5 7)])∧Below w.heap.size w w':=by
  have HPD:=hide hU;have HPW:=hide hp;have HMU:=hide hm
  obtain ⟨V,hV⟩:∃ V,V=((w.alloc (.cells #[I (ev 0),I (ev 1),I (ev 2),I (ev 3),I (ev 4),I nu,I de] 127)).alloc (.cells pa 52)).alloc (.cells #[I 0,I 0,I 0,I 0,I 0,I 0,I 0,I 0] 26):=⟨_,rfl⟩
  have HB:Hid (Below w.heap.size w V):=by rw[hV];exact (((Below.refl _ _).alloc (Nat.le_refl _) _).alloc (by simp) _).alloc (by simp;omega) _
  have HA:Hid (OwnU V w.heap.size 127 #[I (ev 0),I (ev 1),I (ev 2),I (ev 3),I (ev 4),I nu,I de]):=by rw[hV];exact ((OwnU.new _ _ _).alloc _).alloc _
  have HO:Hid (OwnU V (w.heap.size+1) 52 pa):=by rw[hV];have h:=OwnU.new (w.alloc (.cells #[I (ev 0),I (ev 1),I (ev 2),I (ev 3),I (ev 4),I nu,I de] 127)) pa 52;rw[Dm.size_alloc] at h;exact h.alloc _
  have HR:Hid (OwnU V (w.heap.size+1+1) 26 #[I 0,I 0,I 0,I 0,I 0,I 0,I 0,I 0]):=by rw[hV];have h:=OwnU.new ((w.alloc (.cells #[I (ev 0),I (ev 1),I (ev 2),I (ev 3),I (ev 4),I nu,I de] 127)).alloc (.cells pa 52)) #[I 0,I 0,I 0,I 0,I 0,I 0,I 0,I 0] 26;rw[Dm.size_alloc,Dm.size_alloc] at h;exact h
  have HV:=hide hV;have HZ:=hide h0
  clear hV hU hp hm h0
  go_enter Tryz.func101,Tryz.ntmps101
  go_upto_region 1 with fail
  rw[← un HV]
  clear HV
  go_upto_region 2 with (refine storeT 26 8 info26 rfl (.tmp 5) (.tmp 10) rfl V.heap.size #[I 0,I 0,I 0,I 0,I 0,I 0,I 0,I 0] #[I 0,I 0,I 0,I 0,I 0,I 0,I 0,I 0] rfl rfl rfl rfl (OwnU.new _ _ _) (by kernel_rfl) ?_)
  have hb1:Below V.heap.size V ((V.alloc (.cells #[I 0,I 0,I 0,I 0,I 0,I 0,I 0,I 0] 26)).setRow V.heap.size #[I 0,I 0,I 0,I 0,I 0,I 0,I 0,I 0]):=below_setRow (albel _ _) (Nat.le_refl _) _
  have HP1:Hid (OwnU ((V.alloc (.cells #[I 0,I 0,I 0,I 0,I 0,I 0,I 0,I 0] 26)).setRow V.heap.size #[I 0,I 0,I 0,I 0,I 0,I 0,I 0,I 0]) V.heap.size 26 #[I (P 0 0),I (P 0 1),I (P 0 2),I (P 0 3),I (P 0 4),I (P 0 5),I (P 0 6),I (P 0 7)]):=by rw[un HZ];exact (OwnU.new _ _ _).setRow _
  have HA1:=hide ((un HA).later hb1);have HO1:=hide ((un HO).later hb1);have HR1:=hide ((un HR).later hb1);have HB1:Hid (Below w.heap.size w _):=(un HB).trans (hb1.mono (un HB).size)
  have HG5:Hid (w.heap.size+1+1<V.heap.size):=(un HR).lt
  clear hb1 HA HO HR HB HZ
  generalize (V.alloc (.cells #[I 0,I 0,I 0,I 0,I 0,I 0,I 0,I 0] 26)).setRow V.heap.size #[I 0,I 0,I 0,I 0,I 0,I 0,I 0,I 0]=w1 at *
  generalize V.heap.size=g5 at *
  have x0:w1.cell? ⟨w.heap.size,0,none⟩=some (I (ev 0)):=(un HA1).ub.c 0 _ rfl
  have x1:w1.cell? ⟨w.heap.size,1,none⟩=some (I (ev 1)):=(un HA1).ub.c 1 _ rfl
  have x2:w1.cell? ⟨w.heap.size,2,none⟩=some (I (ev 2)):=(un HA1).ub.c 2 _ rfl
  have x3:w1.cell? ⟨w.heap.size,3,none⟩=some (I (ev 3)):=(un HA1).ub.c 3 _ rfl
  have x4:w1.cell? ⟨w.heap.size,4,none⟩=some (I (ev 4)):=(un HA1).ub.c 4 _ rfl
  go_upto_region 3 with fail
  clear x0 x1 x2 x3 x4
  go_loopw [13] (fun s13 wr=>∃ (k:Nat),k≤5∧s13=I (k:Int)∧Hid (OwnU wr g5 26 #[I (P k 0),I (P k 1),I (P k 2),I (P k 3),I (P k 4),I (P k 5),I (P k 6),I (P k 7)])∧Hid (OwnU wr (w.heap.size+1) 52 pa)∧Hid (OwnU wr (w.heap.size+1+1) 26 #[I 0,I 0,I 0,I 0,I 0,I 0,I 0,I 0])∧Hid (Below w.heap.size w wr)) (fun s13 _=>5 - (intOf s13).toNat)
  case atStart=>exact ⟨0,by omega,rfl,HP1,HO1,HR1,HB1⟩
  case round=>
    clear HP1 HO1 HR1 HB1 HA1
    obtain ⟨k,hk,rfl,HP,HO,HR,HB⟩:=hrel
    by_cases hlt:k<5
    · have hkI:(k:Int)<5:=by omega
      have hk0:(0:Int)≤(k:Int):=by omega
      have hix:=ev5 ev k hlt
      have HMD:Hid (wr.rangeAt (w.heap.size+1) (k*15+2) [I (U k 0),I (U k 1),I (U k 2),I (U k 3),I (U k 4),I (U k 5),I (U k 6),I (U k 7)]):=(un HO).mid _ _ (un HPD k hlt)
      have HPK:=hide (un HPW k hlt)
      have HMK:=hide (un HMU k hlt)
      obtain ⟨R,hR⟩:∃ R,R=P (k+1):=⟨_,rfl⟩
      rw[← hR] at HMK
      have HRR:=hide hR
      clear hR HMU HPW HPD
      generalize P k=PP at *
      generalize Q k=QQ at *
      generalize U k=UU at *
      go_upto_region 6 with (first
        | (refine wpList_load_mid rfl 26 (.tmp 20) rfl (w.heap.size+1) (k*15+2) rfl [I (UU 0),I (UU 1),I (UU 2),I (UU 3),I (UU 4),I (UU 5),I (UU 6),I (UU 7)] _ (un HMD) Tryz.underlying26 rfl info26 ?_)
        | (go_at_call 174;go_must (refine (un HPK _).mono ?_;rintro e w2 ⟨rfl,hb⟩;have HP2:=hide ((un HP).later hb);have HO2:=hide ((un HO).later hb);have HR2:=hide ((un HR).later hb);have HB2:Hid (Below w.heap.size w w2):=(un HB).trans (hb.mono (un HB).size);clear hb))
        | (refine storeT 26 8 info26 rfl (.tmp 8) (.tmp 24) rfl w2.heap.size #[I 0,I 0,I 0,I 0,I 0,I 0,I 0,I 0] #[I (QQ 0),I (QQ 1),I (QQ 2),I (QQ 3),I (QQ 4),I (QQ 5),I (QQ 6),I (QQ 7)] rfl rfl rfl rfl (OwnU.new _ _ _) (by kernel_rfl) ?_))
      have hb3:Below w2.heap.size w2 ((w2.alloc (.cells #[I 0,I 0,I 0,I 0,I 0,I 0,I 0,I 0] 26)).setRow w2.heap.size #[I (QQ 0),I (QQ 1),I (QQ 2),I (QQ 3),I (QQ 4),I (QQ 5),I (QQ 6),I (QQ 7)]):=below_setRow (albel _ _) (Nat.le_refl _) _
      have HQ3:Hid (OwnU ((w2.alloc (.cells #[I 0,I 0,I 0,I 0,I 0,I 0,I 0,I 0] 26)).setRow w2.heap.size #[I (QQ 0),I (QQ 1),I (QQ 2),I (QQ 3),I (QQ 4),I (QQ 5),I (QQ 6),I (QQ 7)]) w2.heap.size 26 #[I (QQ 0),I (QQ 1),I (QQ 2),I (QQ 3),I (QQ 4),I (QQ 5),I (QQ 6),I (QQ 7)]):=(OwnU.new _ _ _).setRow _
      have HP3:=hide ((un HP2).later hb3);have HO3:=hide ((un HO2).later hb3);have HR3:=hide ((un HR2).later hb3);have HB3:Hid (Below w.heap.size w _):=(un HB2).trans (hb3.mono (un HB2).size)
      clear hb3 hix HP2 HO2 HR2 HB2 HP HO HR HB HMD HPK
      generalize (w2.alloc (.cells #[I 0,I 0,I 0,I 0,I 0,I 0,I 0,I 0] 26)).setRow w2.heap.size #[I (QQ 0),I (QQ 1),I (QQ 2),I (QQ 3),I (QQ 4),I (QQ 5),I (QQ 6),I (QQ 7)]=w3 at *
      generalize w2.heap.size=g8 at *
      have HMC:Hid (∀ W,W=w3.alloc (.cells #[I (PP 0),I (PP 1),I (PP 2),I (PP 3),I (PP 4),I (PP 5),I (PP 6),I (PP 7),I (QQ 0),I (QQ 1),I (QQ 2),I (QQ 3),I (QQ 4),I (QQ 5),I (QQ 6),I (QQ 7)] 26)→Calls Tryz.prog 175 #[.slice (some ⟨w3.heap.size,0,none⟩) 2 2] W fun e w'=>e=.returned (.tuple #[.agg #[I (R 0),I (R 1),I (R 2),I (R 3),I (R 4),I (R 5),I (R 6),I (R 7)],I 0])∧Below W.heap.size W w'):=fun W hW=>un HMK _ W (by rw[hW];exact OwnU.new _ _ _)
      go_upto_region 7 with (first
        | (refine wpList_load_row rfl 26 (.tmp 5) rfl g5 rfl 26 #[I (PP 0),I (PP 1),I (PP 2),I (PP 3),I (PP 4),I (PP 5),I (PP 6),I (PP 7)] (0,0) _ (un HP3) Tryz.underlying26 rfl (by kernel_rfl) ?_)
        | (refine wpList_load_row rfl 26 (.tmp 8) rfl g8 rfl 26 #[I (QQ 0),I (QQ 1),I (QQ 2),I (QQ 3),I (QQ 4),I (QQ 5),I (QQ 6),I (QQ 7)] (0,0) _ (un HQ3) Tryz.underlying26 rfl (by kernel_rfl) ?_)
        | (go_at_call 175;go_must (refine (un HMC _ rfl).mono ?_;rintro e w4 ⟨rfl,hb⟩;have HP4:=hide (((un HP3).alloc _).later hb);have HO4:=hide (((un HO3).alloc _).later hb);have HR4:=hide (((un HR3).alloc _).later hb);have HB4:Hid (Below w.heap.size w w4):=((un HB3).alloc (un HB3).size _).trans (hb.mono ((un HB3).alloc (un HB3).size _).size);clear hb))
        | (refine storeT 26 8 info26 rfl (.tmp 5) (.tmp 31) rfl g5 #[I (PP 0),I (PP 1),I (PP 2),I (PP 3),I (PP 4),I (PP 5),I (PP 6),I (PP 7)] #[I (R 0),I (R 1),I (R 2),I (R 3),I (R 4),I (R 5),I (R 6),I (R 7)] rfl rfl rfl rfl (un HP4) (by kernel_rfl) ?_))
      have HP5:=hide ((un HP4).setRow #[I (R 0),I (R 1),I (R 2),I (R 3),I (R 4),I (R 5),I (R 6),I (R 7)])
      have HO5:=hide ((un HO4).otherRow (us:=#[I (R 0),I (R 1),I (R 2),I (R 3),I (R 4),I (R 5),I (R 6),I (R 7)]) (show ¬ g5=w.heap.size+1 by have:=un HG5;omega))
      have HR5:=hide ((un HR4).otherRow (us:=#[I (R 0),I (R 1),I (R 2),I (R 3),I (R 4),I (R 5),I (R 6),I (R 7)]) (show ¬ g5=w.heap.size+1+1 by have:=un HG5;omega))
      have HB5:Hid (Below w.heap.size w (w4.setRow g5 #[I (R 0),I (R 1),I (R 2),I (R 3),I (R 4),I (R 5),I (R 6),I (R 7)])):=below_setRow (un HB4) (by have:=un HG5;omega) _
      have HP6:Hid (OwnU (w4.setRow g5 #[I (R 0),I (R 1),I (R 2),I (R 3),I (R 4),I (R 5),I (R 6),I (R 7)]) g5 26 #[I (P (k+1) 0),I (P (k+1) 1),I (P (k+1) 2),I (P (k+1) 3),I (P (k+1) 4),I (P (k+1) 5),I (P (k+1) 6),I (P (k+1) 7)]):=by rw[← un HRR];exact HP5
      go_wp2_with fail
      go_roundw
      case rel=>exact ⟨k+1,by omega,by go_num,HP6,HO5,HR5,HB5⟩
      case measure=>simp[intOf];omega
    · have hkI:¬ (k:Int)<5:=by omega
      have HK:Hid (k=5):=by show k=5;omega
      have HP8:Hid (OwnU wr g5 26 #[I (P 5 0),I (P 5 1),I (P 5 2),I (P 5 3),I (P 5 4),I (P 5 5),I (P 5 6),I (P 5 7)]):=by have h:=un HP;rw[un HK] at h;exact h
      go_wp2_with (first
        | (refine wpList_load_row rfl 26 (.tmp 5) rfl g5 rfl 26 #[I (P 5 0),I (P 5 1),I (P 5 2),I (P 5 3),I (P 5 4),I (P 5 5),I (P 5 6),I (P 5 7)] (0,0) _ (un HP8) Tryz.underlying26 rfl (by kernel_rfl) ?_)
        | (refine storeT 26 8 info26 rfl (.tmp 4) (.tmp 34) rfl (w.heap.size+1+1) #[I 0,I 0,I 0,I 0,I 0,I 0,I 0,I 0] #[I (P 5 0),I (P 5 1),I (P 5 2),I (P 5 3),I (P 5 4),I (P 5 5),I (P 5 6),I (P 5 7)] rfl rfl rfl rfl (un HR) (by kernel_rfl) ?_))
      exact bodyPost_ret (v:=.agg #[I (P 5 0),I (P 5 1),I (P 5 2),I (P 5 3),I (P 5 4),I (P 5 5),I (P 5 6),I (P 5 7)]) (res26 Tryz.results101 _ _ (w.heap.size+1+1) _ rfl rfl ((un HR).setRow _)) rfl ⟨rfl,below_setRow (un HB) (by omega) _⟩
end Go.Proofs.YtamoadanapmmeaaGreatDoor.Tr

namespace Go.Proofs.YtamoadanapmmeaaGreatDoor.Tr
open Go.RowKit
set_option maxRecDepth 100000 in
set_option maxHeartbeats 4000000 in
theorem facT (ev : Nat → Int) (n d : Int) (pa : Array Value) (uN uD pN pD fN fD : Nat → ByteArray) (an ad bn bd : ByteArray) (w : World)
    (hpf : ∀ k : Nat, k < 5 → pa[k * 15 + 10]? = some (.string (uN k)) ∧ pa[k * 15 + 10 + 1]? = some (.string (uD k)))
    (hoa : ∀ W, Below w.heap.size w W → Calls Tryz.prog 103 #[I n] W fun r w' => r = .returned (.agg #[.string an, .string ad]) ∧ Below W.heap.size W w')
    (hob : ∀ W, Below w.heap.size w W → Calls Tryz.prog 103 #[I d] W fun r w' => r = .returned (.agg #[.string bn, .string bd]) ∧ Below W.heap.size W w')
    (hqu : ∀ W, Below w.heap.size w W → Calls Tryz.prog 31 #[.agg #[.string an, .string ad], .agg #[.string bn, .string bd]] W fun r w' => r = .returned (.tuple #[.agg #[.string (fN 0), .string (fD 0)], I 0]) ∧ Below W.heap.size W w')
    (hpo : ∀ k : Nat, k < 5 → ∀ W, Below w.heap.size w W → Calls Tryz.prog 176 #[.agg #[.string (uN k), .string (uD k)], I (ev k)] W fun r w' => r = .returned (.tuple #[.agg #[.string (pN k), .string (pD k)], I 0]) ∧ Below W.heap.size W w')
    (hmu : ∀ k : Nat, k < 5 → ∀ W, Below w.heap.size w W → Calls Tryz.prog 28 #[.agg #[.string (fN k), .string (fD k)], .agg #[.string (pN k), .string (pD k)]] W fun r w' => r = .returned (.tuple #[.agg #[.string (fN (k + 1)), .string (fD (k + 1))], I 0]) ∧ Below W.heap.size W w') :
    Calls Tryz.prog 102 #[.agg #[I (ev 0), I (ev 1), I (ev 2), I (ev 3), I (ev 4), I n, I d], .agg pa] w fun r w' => r = .returned (.agg #[.string (fN 5), .string (fD 5)]) ∧ Below w.heap.size w w' := by
  obtain ⟨V, hV⟩ : ∃ V, V = ((w.alloc (.cells #[I (ev 0), I (ev 1), I (ev 2), I (ev 3), I (ev 4), I n, I d] 127)).alloc (.cells pa 52)).alloc (.cells #[.string ⟨#[]⟩, .string ⟨#[]⟩] 28) := ⟨_, rfl⟩
  have HB : Hid (Below w.heap.size w V) := by rw [hV]; exact (((Below.refl _ _).alloc (Nat.le_refl _) _).alloc (by simp) _).alloc (by simp; omega) _
  have HP : Hid (OwnU V w.heap.size 127 #[I (ev 0), I (ev 1), I (ev 2), I (ev 3), I (ev 4), I n, I d]) := by rw [hV]; exact ((OwnU.new _ _ _).alloc _).alloc _
  have HO : Hid (OwnU V (w.heap.size + 1) 52 pa) := by rw [hV]; have h := OwnU.new (w.alloc (.cells #[I (ev 0), I (ev 1), I (ev 2), I (ev 3), I (ev 4), I n, I d] 127)) pa 52; rw [Dm.size_alloc] at h; exact h.alloc _
  have HR : Hid (T2 V (w.heap.size + 1 + 1) (.string ⟨#[]⟩) (.string ⟨#[]⟩)) := by
    rw [hV]
    have h := OwnU.new ((w.alloc (.cells #[I (ev 0), I (ev 1), I (ev 2), I (ev 3), I (ev 4), I n, I d] 127)).alloc (.cells pa 52)) #[.string ⟨#[]⟩, .string ⟨#[]⟩] 28
    rw [Dm.size_alloc, Dm.size_alloc] at h
    exact ⟨h.ub.c 0 _ rfl, h.ub.c 1 _ rfl, h.ub.f 0 _ rfl, h.ub.f 1 _ rfl⟩
  have HPO := hide hpo; have HMU := hide hmu; have HPF := hide hpf
  have HV := hide hV
  have HOA := hide hoa; have HOB := hide hob; have HQU := hide hqu
  clear hoa hob hqu hmu hpo hpf
  go_enter Tryz.func102, Tryz.ntmps102
  go_upto_region 1 with fail
  rw [← un HV]
  clear hV HV
  have t0 : V.cell? ⟨w.heap.size, 5, none⟩ = some (I n) := (un HP).ub.c 5 _ rfl
  have t1 : V.cell? ⟨w.heap.size, 6, none⟩ = some (I d) := (un HP).ub.c 6 _ rfl
  have HC0 : Hid (Below V.heap.size V V.drew) := (Below.refl _ _).drew
  have HUP : Hid (∀ W, Below V.heap.size V W → Below w.heap.size w W) := fun W h => (un HB).trans (h.mono (un HB).size)
  have HUA : Hid (∀ W O, Below V.heap.size V W → Below w.heap.size w (W.alloc O)) := fun W O h => (un HB).trans ((h.alloc h.size O).mono (un HB).size)
  have HUD : Hid (∀ O, Below w.heap.size w (V.alloc O).drew) := fun O => ((un HB).alloc (un HB).size O).drew
  have hv0 := (un HP).lt
  go_region_held3 (fun w' => w'.cell? ⟨w.heap.size, 5, none⟩ = some (I n) ∧ w'.cell? ⟨w.heap.size, 6, none⟩ = some (I d)) (first | assumption | (simp [go_sem, *]; done)) ((first
    | (go_at_call_of 103 n; go_must (refine (un HOA _ (by first | exact un HUP _ (un HC0) | exact un HUA _ _ (un HC0) | exact un HUD _)).mono ?_; rintro e wa ⟨rfl, hb⟩; have HCwa : Hid (Below V.heap.size V wa) := (by first | exact (un HC0).trans (hb.mono (un HC0).size) | exact bel_al (un HC0) hb | exact bel_alD hb); (first | (have HZwa := hide ((un HZ0).later hb); clear u0 u1 uf0 uf1; have u0 := (un HZwa).c0; have u1 := (un HZwa).c1; have uf0 := (un HZwa).f0; have uf1 := (un HZwa).f1) | (have HZwa : Hid (T2 wa V.heap.size (.string ⟨#[]⟩) (.string ⟨#[]⟩)) := (by first | exact T2.past hb | exact T2.pastD hb); have u0 := (un HZwa).c0; have u1 := (un HZwa).c1; have uf0 := (un HZwa).f0; have uf1 := (un HZwa).f1) | skip); clear hb t0 t1; have t0 : wa.cell? ⟨w.heap.size, 5, none⟩ = some (I n) := ((un HP).later (un HCwa)).ub.c 5 _ rfl; have t1 : wa.cell? ⟨w.heap.size, 6, none⟩ = some (I d) := ((un HP).later (un HCwa)).ub.c 6 _ rfl; have hvwa := ((un HP).later (un HCwa)).lt))
    | (go_at_call_of 103 d; go_must (refine (un HOB _ (by first | exact un HUP _ (un HCwa) | exact un HUA _ _ (un HCwa) | exact un HUD _)).mono ?_; rintro e wb ⟨rfl, hb⟩; have HCwb : Hid (Below V.heap.size V wb) := (by first | exact (un HCwa).trans (hb.mono (un HCwa).size) | exact bel_al (un HCwa) hb | exact bel_alD hb); (first | (have HZwb := hide ((un HZwa).later hb); clear u0 u1 uf0 uf1; have u0 := (un HZwb).c0; have u1 := (un HZwb).c1; have uf0 := (un HZwb).f0; have uf1 := (un HZwb).f1) | (have HZwb : Hid (T2 wb wa.heap.size (.string ⟨#[]⟩) (.string ⟨#[]⟩)) := (by first | exact T2.past hb | exact T2.pastD hb); have u0 := (un HZwb).c0; have u1 := (un HZwb).c1; have uf0 := (un HZwb).f0; have uf1 := (un HZwb).f1) | skip); clear hb t0 t1; have t0 : wb.cell? ⟨w.heap.size, 5, none⟩ = some (I n) := ((un HP).later (un HCwb)).ub.c 5 _ rfl; have t1 : wb.cell? ⟨w.heap.size, 6, none⟩ = some (I d) := ((un HP).later (un HCwb)).ub.c 6 _ rfl; have hvwb := ((un HP).later (un HCwb)).lt))
    | (go_at_call 31; go_must (refine (un HQU _ (by first | exact un HUP _ (un HCwb) | exact un HUA _ _ (un HCwb) | exact un HUD _)).mono ?_; rintro e wc ⟨rfl, hb⟩; have HCwc : Hid (Below V.heap.size V wc) := (by first | exact (un HCwb).trans (hb.mono (un HCwb).size) | exact bel_al (un HCwb) hb | exact bel_alD hb); (first | (have HZwc := hide ((un HZwb).later hb); clear u0 u1 uf0 uf1; have u0 := (un HZwc).c0; have u1 := (un HZwc).c1; have uf0 := (un HZwc).f0; have uf1 := (un HZwc).f1) | (have HZwc : Hid (T2 wc wb.heap.size (.string ⟨#[]⟩) (.string ⟨#[]⟩)) := (by first | exact T2.past hb | exact T2.pastD hb); have u0 := (un HZwc).c0; have u1 := (un HZwc).c1; have uf0 := (un HZwc).f0; have uf1 := (un HZwc).f1) | skip); clear hb t0 t1; have t0 : wc.cell? ⟨w.heap.size, 5, none⟩ = some (I n) := ((un HP).later (un HCwc)).ub.c 5 _ rfl; have t1 : wc.cell? ⟨w.heap.size, 6, none⟩ = some (I d) := ((un HP).later (un HCwc)).ub.c 6 _ rfl; have hvwc := ((un HP).later (un HCwc)).lt))))
  all_goals
    first
    | (obtain ⟨X, hX⟩ : ∃ X, X = wc.heap.size := ⟨_, rfl⟩
       have HNX : Hid (¬ X = w.heap.size + 1 ∧ ¬ X = w.heap.size + 1 + 1 ∧ w.heap.size ≤ X) := (by have h1 := ((un HR).later (un HCwc)).lt; rw [hX]; show _ ∧ _; omega)
       obtain ⟨U, hU⟩ : ∃ U, U = wc.alloc (.cells #[.string (fN 0), .string (fD 0)] 28) := ⟨_, rfl⟩
       have HF : Hid (T2 U X (.string (fN 0)) (.string (fD 0)) ∧ T2 U (w.heap.size + 1 + 1) (.string ⟨#[]⟩) (.string ⟨#[]⟩) ∧ Below w.heap.size w U ∧ OwnU U w.heap.size 127 #[I (ev 0), I (ev 1), I (ev 2), I (ev 3), I (ev 4), I n, I d] ∧ OwnU U (w.heap.size + 1) 52 pa) := by
         rw [hU, hX]
         exact ⟨⟨by simp [go_sem], by simp [go_sem], by simp [go_sem], by simp [go_sem]⟩, ((un HR).later (un HCwc)).later ((Below.refl _ _).alloc (Nat.le_refl _) _), un HUA _ _ (un HCwc), ((un HP).later (un HCwc)).alloc _, ((un HO).later (un HCwc)).alloc _⟩
       rw [← hU, ← hX]
       clear hU hX)
    | (obtain ⟨X, hX⟩ : ∃ X, X = wb.heap.size := ⟨_, rfl⟩
       have HNX : Hid (¬ X = w.heap.size + 1 ∧ ¬ X = w.heap.size + 1 + 1 ∧ w.heap.size ≤ X) := (by have h1 := ((un HR).later (un HCwb)).lt; rw [hX]; show _ ∧ _; omega)
       obtain ⟨U, hU⟩ : ∃ U, U = (wc.setCell { block := wb.heap.size, off := 0 } (.string (fN 0))).setCell { block := wb.heap.size, off := 1 } (.string (fD 0)) := ⟨_, rfl⟩
       have HF : Hid (T2 U X (.string (fN 0)) (.string (fD 0)) ∧ T2 U (w.heap.size + 1 + 1) (.string ⟨#[]⟩) (.string ⟨#[]⟩) ∧ Below w.heap.size w U ∧ OwnU U w.heap.size 127 #[I (ev 0), I (ev 1), I (ev 2), I (ev 3), I (ev 4), I n, I d] ∧ OwnU U (w.heap.size + 1) 52 pa) := by
         rw [hU, hX]
         have h1 := ((un HR).later (un HCwb)).lt
         exact ⟨(un HZwc).store _ _, ((un HR).later (un HCwc)).otherP wb.heap.size (by omega) _ _, below_store2 (un HUP _ (un HCwc)) (by omega) _ _, (((un HP).later (un HCwc)).otherSet (by omega) _ _).otherSet (by omega) _ _, (((un HO).later (un HCwc)).otherSet (by omega) _ _).otherSet (by omega) _ _⟩
       rw [← hU, ← hX]
       clear hU hX)
    | (obtain ⟨X, hX⟩ : ∃ X, X = wa.heap.size := ⟨_, rfl⟩
       have HNX : Hid (¬ X = w.heap.size + 1 ∧ ¬ X = w.heap.size + 1 + 1 ∧ w.heap.size ≤ X) := (by have h1 := ((un HR).later (un HCwa)).lt; rw [hX]; show _ ∧ _; omega)
       obtain ⟨U, hU⟩ : ∃ U, U = (wc.setCell { block := wa.heap.size, off := 0 } (.string (fN 0))).setCell { block := wa.heap.size, off := 1 } (.string (fD 0)) := ⟨_, rfl⟩
       have HF : Hid (T2 U X (.string (fN 0)) (.string (fD 0)) ∧ T2 U (w.heap.size + 1 + 1) (.string ⟨#[]⟩) (.string ⟨#[]⟩) ∧ Below w.heap.size w U ∧ OwnU U w.heap.size 127 #[I (ev 0), I (ev 1), I (ev 2), I (ev 3), I (ev 4), I n, I d] ∧ OwnU U (w.heap.size + 1) 52 pa) := by
         rw [hU, hX]
         have h1 := ((un HR).later (un HCwa)).lt
         exact ⟨(un HZwc).store _ _, ((un HR).later (un HCwc)).otherP wa.heap.size (by omega) _ _, below_store2 (un HUP _ (un HCwc)) (by omega) _ _, (((un HP).later (un HCwc)).otherSet (by omega) _ _).otherSet (by omega) _ _, (((un HO).later (un HCwc)).otherSet (by omega) _ _).otherSet (by omega) _ _⟩
       rw [← hU, ← hX]
       clear hU hX)
    | (obtain ⟨X, hX⟩ : ∃ X, X = V.heap.size := ⟨_, rfl⟩
       have HNX : Hid (¬ X = w.heap.size + 1 ∧ ¬ X = w.heap.size + 1 + 1 ∧ w.heap.size ≤ X) := (by have h1 := (un HR).lt; rw [hX]; show _ ∧ _; omega)
       obtain ⟨U, hU⟩ : ∃ U, U = (wc.setCell { block := V.heap.size, off := 0 } (.string (fN 0))).setCell { block := V.heap.size, off := 1 } (.string (fD 0)) := ⟨_, rfl⟩
       have HF : Hid (T2 U X (.string (fN 0)) (.string (fD 0)) ∧ T2 U (w.heap.size + 1 + 1) (.string ⟨#[]⟩) (.string ⟨#[]⟩) ∧ Below w.heap.size w U ∧ OwnU U w.heap.size 127 #[I (ev 0), I (ev 1), I (ev 2), I (ev 3), I (ev 4), I n, I d] ∧ OwnU U (w.heap.size + 1) 52 pa) := by
         rw [hU, hX]
         have h1 := (un HR).lt
         exact ⟨(un HZwc).store _ _, ((un HR).later (un HCwc)).otherP V.heap.size (by omega) _ _, below_store2 (un HUP _ (un HCwc)) (by omega) _ _, (((un HP).later (un HCwc)).otherSet (by omega) _ _).otherSet (by omega) _ _, (((un HO).later (un HCwc)).otherSet (by omega) _ _).otherSet (by omega) _ _⟩
       rw [← hU, ← hX]
       clear hU hX)
  all_goals
    obtain ⟨hX1, hR1, hB1, hA1, hO1⟩ := un HF
    have HXX := hide hX1; have HRR := hide hR1; have HBB := hide hB1; have HOO := hide hO1
    have a0 : U.cell? ⟨w.heap.size, 0, none⟩ = some (I (ev 0)) := hA1.ub.c 0 _ rfl
    have a1 : U.cell? ⟨w.heap.size, 1, none⟩ = some (I (ev 1)) := hA1.ub.c 1 _ rfl
    have a2 : U.cell? ⟨w.heap.size, 2, none⟩ = some (I (ev 2)) := hA1.ub.c 2 _ rfl
    have a3 : U.cell? ⟨w.heap.size, 3, none⟩ = some (I (ev 3)) := hA1.ub.c 3 _ rfl
    have a4 : U.cell? ⟨w.heap.size, 4, none⟩ = some (I (ev 4)) := hA1.ub.c 4 _ rfl
    clear HF hX1 hR1 hB1 hA1 hO1
    go_upto_region 3 with fail
    clear a0 a1 a2 a3 a4
    go_loopw [23] (fun s23 wr => ∃ (k : Nat), k ≤ 5 ∧ s23 = I (k : Int) ∧ Hid (T2 wr X (.string (fN k)) (.string (fD k))) ∧ Hid (T2 wr (w.heap.size + 1 + 1) (.string ⟨#[]⟩) (.string ⟨#[]⟩)) ∧ Hid (Below w.heap.size w wr) ∧ Hid (OwnU wr (w.heap.size + 1) 52 pa)) (fun s23 _ => 5 - (intOf s23).toNat)
    case atStart => exact ⟨0, by omega, rfl, HXX, HRR, HBB, HOO⟩
    case round =>
      clear HXX HRR HBB HOO
      obtain ⟨k, hk, rfl, HX1, HR1, HB1, HO1⟩ := hrel
      by_cases hlt : k < 5
      · have hkI : (k : Int) < 5 := by omega
        have hk0 : (0 : Int) ≤ (k : Int) := by omega
        have hix := ev5 ev k hlt
        have p0 := (un HO1).ub.c _ _ (un HPF k hlt).1
        have p1 := (un HO1).ub.c _ _ (un HPF k hlt).2
        have HPK := hide (un HPO k hlt); have HMK := hide (un HMU k hlt)
        obtain ⟨gn, hgn⟩ : ∃ gn, gn = fN (k + 1) := ⟨_, rfl⟩
        obtain ⟨gd, hgd⟩ : ∃ gd, gd = fD (k + 1) := ⟨_, rfl⟩
        rw [← hgn, ← hgd] at HMK
        have HGN := hide hgn; have HGD := hide hgd
        clear hgn hgd HPO HMU HPF
        generalize fN k = fn at *
        generalize fD k = fd at *
        generalize pN k = pn at *
        generalize pD k = pd at *
        generalize uN k = vn at *
        generalize uD k = vd at *
        generalize ev k = ek at *
        go_upto_region 6 with (go_at_call 176; go_must (refine (un HPK _ (un HB1)).mono ?_; rintro e w2 ⟨rfl, hb⟩; have HX2 := hide ((un HX1).later hb); have HR2 := hide ((un HR1).later hb); have HO2 := hide ((un HO1).later hb); have HB2 : Hid (Below w.heap.size w w2) := (un HB1).trans (hb.mono (un HB1).size); clear hb p0 p1))
        clear hix HX1 HR1 HO1 HB1
        obtain ⟨V3, hV3⟩ : ∃ V3, V3 = w2.alloc (.cells #[.string pn, .string pd] 28) := ⟨_, rfl⟩
        have hb3 : Below w2.heap.size w2 V3 := by rw [hV3]; exact (Below.refl _ _).alloc (Nat.le_refl _) _
        have HY3 : Hid (T2 V3 w2.heap.size (.string pn) (.string pd)) := by rw [hV3]; exact ⟨by simp [go_sem], by simp [go_sem], by simp [go_sem], by simp [go_sem]⟩
        have HX3 := hide ((un HX2).later hb3); have HR3 := hide ((un HR2).later hb3); have HO3 := hide ((un HO2).later hb3); have HB3 : Hid (Below w.heap.size w V3) := (un HB2).trans (hb3.mono (un HB2).size)
        rw [← hV3]
        clear hV3 hb3 HX2 HR2 HO2 HB2
        generalize w2.heap.size = g9 at *
        have x0 := (un HX3).c0; have x1 := (un HX3).c1; have y0 := (un HY3).c0; have y1 := (un HY3).c1
        go_wp2_with (go_at_call 28; go_must (refine (un HMK _ (un HB3)).mono ?_; rintro e w4 ⟨rfl, hb⟩; have HX4 := hide ((un HX3).later hb); have HR4 := hide ((un HR3).later hb); have HO4 := hide ((un HO3).later hb); have HB4 : Hid (Below w.heap.size w w4) := (un HB3).trans (hb.mono (un HB3).size); clear hb x0 x1 y0 y1; have x0 := (un HX4).c0; have x1 := (un HX4).c1; have xf0 := (un HX4).f0; have xf1 := (un HX4).f1))
        have HX5 : Hid (T2 ((w4.setCell ⟨X, 0, none⟩ (.string gn)).setCell ⟨X, 1, none⟩ (.string gd)) X (.string (fN (k + 1))) (.string (fD (k + 1)))) := by rw [← un HGN, ← un HGD]; exact (un HX4).store _ _
        have HR5 : Hid (T2 ((w4.setCell ⟨X, 0, none⟩ (.string gn)).setCell ⟨X, 1, none⟩ (.string gd)) (w.heap.size + 1 + 1) (.string ⟨#[]⟩) (.string ⟨#[]⟩)) := (un HR4).otherP X (un HNX).2.1 _ _
        have HO5 : Hid (OwnU ((w4.setCell ⟨X, 0, none⟩ (.string gn)).setCell ⟨X, 1, none⟩ (.string gd)) (w.heap.size + 1) 52 pa) := ((un HO4).otherSet (fun h => (un HNX).1 h.symm) _ _).otherSet (fun h => (un HNX).1 h.symm) _ _
        have HB5 : Hid (Below w.heap.size w ((w4.setCell ⟨X, 0, none⟩ (.string gn)).setCell ⟨X, 1, none⟩ (.string gd))) := below_store2 (un HB4) (un HNX).2.2 _ _
        go_roundw
        case rel => exact ⟨k + 1, by omega, by go_num, HX5, HR5, HB5, HO5⟩
        case measure => simp [intOf]; omega
      · have hkI : ¬ (k : Int) < 5 := by omega
        have HK : Hid (k = 5) := by show k = 5; omega
        have HX6 : Hid (T2 wr X (.string (fN 5)) (.string (fD 5))) := by have h := un HX1; rw [un HK] at h; exact h
        have x0 := (un HX6).c0; have x1 := (un HX6).c1
        have r0 := (un HR1).c0; have r1 := (un HR1).c1; have rf0 := (un HR1).f0; have rf1 := (un HR1).f1
        go_wp2_with fail
        have hS := (un HR1).store (.string (fN 5)) (.string (fD 5))
        have hb := below_store2 (un HB1) (by omega) (.string (fN 5)) (.string (fD 5)) (g := w.heap.size + 1 + 1)
        have v0 := hS.c0; have v1 := hS.c1
        exact bodyPost_ret (v := .agg #[.string (fN 5), .string (fD 5)]) (w := store2 wr (w.heap.size + 1 + 1) (.string (fN 5)) (.string (fD 5))) (by simp [results, Tryz.results102, go_sem, v0, v1]) rfl ⟨rfl, hb⟩
end Go.Proofs.YtamoadanapmmeaaGreatDoor.Tr

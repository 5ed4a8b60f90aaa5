/- SiCoherent's tables. -/
import Derived.Test.YthcbhnggphdflaaGreatDoorLimb3
import Derived.Test.YthcbhnggphdflaaGreatDoorCoh
namespace Go.Proofs.YthcbhnggphdflaaGreatDoor
open Go.RowKit
set_option maxRecDepth 100000 in
set_option maxHeartbeats 8000000 in
theorem coh_none (s:ByteArray) (w:World) (nm sy fn fd:ByteArray) (e0 e1 e2 e3 e4 e5 e6 e7 tk:Int) (c:Nat) (hc:c≤8) (sf sx:Nat→ByteArray) (ef:Nat→Int) (bnm bsy bfn bfd bon bod:Nat→ByteArray) (btk:Nat→Int) (bd pd acc:Nat→Nat→Int)
    (h11n:∀W,Below w.heap.size w W→Calls Tryz.prog 11 #[.string s] W fun r w'=>r=.returned (.tuple #[.agg z15,.bool false])∧Below W.heap.size W w')
    (h11:∀W,Below w.heap.size w W→Calls Tryz.prog 11 #[.string ⟨#[119,97,116,116]⟩] W fun r w'=>r=.returned (.tuple #[.agg #[.string nm,.string sy,I e0,I e1,I e2,I e3,I e4,I e5,I e6,I e7,.string fn,.string fd,.string ⟨#[48]⟩,.string ⟨#[49]⟩,I tk],.bool true])∧Below W.heap.size W w')
    (h13:∀W,Below w.heap.size w W→Mk 13 ⟨#[119,97,116,116]⟩ W c true sf ef)
    (hkg:∀i,i<c→(((sf i).toList == [107,103])=true∧sx i=⟨#[103]⟩)∨(((sf i).toList == [107,103])=false∧sx i=sf i))
    (h15:∀i,i<c→∀W,Below w.heap.size w W→Calls Tryz.prog 15 #[.string (sx i)] W fun r w'=>r=.returned (.tuple #[.agg #[.string (bnm i),.string (bsy i),I (bd i 0),I (bd i 1),I (bd i 2),I (bd i 3),I (bd i 4),I (bd i 5),I (bd i 6),I (bd i 7),.string (bfn i),.string (bfd i),.string (bon i),.string (bod i),I (btk i)],.bool true])∧Below W.heap.size W w')
    (h16:∀i,i<c→∀W,Calls Tryz.prog 16 #[.agg (dA (bd i 0) (bd i 1) (bd i 2) (bd i 3) (bd i 4) (bd i 5) (bd i 6) (bd i 7)),I (ef i)] W fun r w'=>r=.returned (.tuple #[.agg (dA (pd i 0) (pd i 1) (pd i 2) (pd i 3) (pd i 4) (pd i 5) (pd i 6) (pd i 7)),I 0])∧Below W.heap.size W w')
    (h17:∀i,i<c→∀W g,OwnU W g 26 #[I (acc i 0),I (acc i 1),I (acc i 2),I (acc i 3),I (acc i 4),I (acc i 5),I (acc i 6),I (acc i 7),I (pd i 0),I (pd i 1),I (pd i 2),I (pd i 3),I (pd i 4),I (pd i 5),I (pd i 6),I (pd i 7)]→Calls Tryz.prog 17 #[.slice (some ⟨g,0,none⟩) 2 2] W fun r w'=>r=.returned (.tuple #[.agg (dA (acc (i+1) 0) (acc (i+1) 1) (acc (i+1) 2) (acc (i+1) 3) (acc (i+1) 4) (acc (i+1) 5) (acc (i+1) 6) (acc (i+1) 7)),I 0])∧Below W.heap.size W w')
    (hz:∀j,acc 0 j=0) (he:acc c 0=e0∧acc c 1=e1∧acc c 2=e2∧acc c 3=e3∧acc c 4=e4∧acc c 5=e5∧acc c 6=e6∧acc c 7=e7) (cn:Nat→Nat) (hc0:cn 0=0) (hcl:∀k,k≤21→cn k≤21) (hcn:∀k,k<21→cn (k+1)=if ((sut k).nm.toList == nm.toList)=true then cn k+1 else cn k) (hfin:cn 21=0∨(fn=⟨#[49]⟩∧fd=⟨#[49]⟩)) :
    Calls Tryz.prog 6 #[.string s] w fun r w'=>r=.returned (.bool true)∧Below w.heap.size w w':=by
  have H11N:=hide h11n;have H11:=hide h11;have H13:=hide h13;have HKG:=hide hkg;have H15:=hide h15;have H16:=hide h16;have H17:=hide h17;have HZ:=hide hz;have HEE:=hide he;have HC0:=hide hc0;have HCN:=hide hcn;have HCL:=hide hcl;have HFI:=hide hfin
  have HB0:Hid (Below w.heap.size w w):=Below.refl _ _
  clear h11n h11 h13 hkg h15 h16 h17 hz he hc0 hcn hcl hfin
  go_enter Tryz.func6,Tryz.ntmps6
  go_upto_region 2 with (first
    | (go_at_call 11;go_must(refine(un H11N _ (un HB0)).mono ?_;rintro e w1 ⟨rfl,hb⟩;have HB1:=hide hb;clear hb))
    | (refine storeT 30 15 info27 rfl (.tmp 3) (.tmp 21) rfl w1.heap.size z15 z15 rfl rfl rfl rfl (OwnU.new _ _ _) (by kernel_rfl) ?_))
  have hb0:Below w1.heap.size w1 ((w1.alloc (.cells z15 30)).setRow w1.heap.size z15):=below_setRow (albel _ _) (Nat.le_refl _) _
  have HV0:Hid (OwnU ((w1.alloc (.cells z15 30)).setRow w1.heap.size z15) w1.heap.size 30 z15):=(OwnU.new _ _ _).setRow _
  have HL3:Hid (w.heap.size≤w1.heap.size):=(un HB1).size
  have HW0:Hid (Below w.heap.size w _):=(un HB1).trans (hb0.mono (un HB1).size)
  clear hb0 HB1
  generalize (w1.alloc (.cells z15 30)).setRow w1.heap.size z15=w0 at *
  generalize w1.heap.size=g3 at *
  go_upto_region 5 with (first
    | (go_at_call 11;go_must(refine(un H11 _ (un HW0)).mono ?_;rintro e wb ⟨rfl,hb⟩;have HV1:=hide ((un HV0).later hb);have HW1:Hid (Below w.heap.size w wb):=(un HW0).trans (hb.mono (un HW0).size);clear hb HV0 HW0))
    | (refine storeT 30 15 info27 rfl (.tmp 3) (.tmp 28) rfl g3 z15 #[.string nm,.string sy,I e0,I e1,I e2,I e3,I e4,I e5,I e6,I e7,.string fn,.string fd,.string ⟨#[48]⟩,.string ⟨#[49]⟩,I tk] rfl rfl rfl rfl (un HV1) (by kernel_rfl) ?_))
  have HU2:=hide ((un HV1).setRow #[.string nm,.string sy,I e0,I e1,I e2,I e3,I e4,I e5,I e6,I e7,.string fn,.string fd,.string ⟨#[48]⟩,.string ⟨#[49]⟩,I tk])
  have HB2:Hid (Below w.heap.size w (wb.setRow g3 #[.string nm,.string sy,I e0,I e1,I e2,I e3,I e4,I e5,I e6,I e7,.string fn,.string fd,.string ⟨#[48]⟩,.string ⟨#[49]⟩,I tk])):=below_setRow (un HW1) (un HL3) _
  clear HV1 HW1
  generalize wb.setRow g3 #[.string nm,.string sy,I e0,I e1,I e2,I e3,I e4,I e5,I e6,I e7,.string fn,.string fd,.string ⟨#[48]⟩,.string ⟨#[49]⟩,I tk]=w2 at *
  go_upto_region 6 with (go_at_call 13;go_must(refine(un H13 _ (un HB2)).mono ?_;rintro e w3 ⟨a,cap,rfl,hr,hb⟩;have HP3:Hid (RowP w3 a c sf ef):=(fun h0=>by obtain⟨g,e,_,l,_,r⟩:=hr h0;exact⟨g,e,l,r⟩);have HU3:=hide ((un HU2).later hb);have HB3:Hid (Below w.heap.size w w3):=(un HB2).trans (hb.mono (un HB2).size);clear hr hb HU2 HB2))
  go_upto_region 9 with fail
  have hb4:Below w3.heap.size w3 (w3.alloc (.cells #[I 0,I 0,I 0,I 0,I 0,I 0,I 0,I 0] 26)):=albel _ _
  have HD4:Hid (OwnU (w3.alloc (.cells #[I 0,I 0,I 0,I 0,I 0,I 0,I 0,I 0] 26)) w3.heap.size 26 (dA (acc 0 0) (acc 0 1) (acc 0 2) (acc 0 3) (acc 0 4) (acc 0 5) (acc 0 6) (acc 0 7))):=by simp only[dA,un HZ];exact OwnU.new _ _ _
  have HL7:Hid (w.heap.size≤w3.heap.size∧g3<w3.heap.size):=⟨(un HB3).size,(un HU3).lt⟩
  have HP4:=hide ((un HP3).later hb4);have HU4:=hide ((un HU3).later hb4);have HB4:Hid (Below w.heap.size w _):=(un HB3).trans (hb4.mono (un HB3).size)
  have HN4:Hid (0<c→∃g,a=some ⟨g,0,none⟩∧g<w3.heap.size):=fun h0=>by obtain⟨g,e,l,_⟩:=un HP3 h0;exact⟨g,e,l⟩
  clear hb4 HP3 HU3 HB3 HZ
  generalize w3.alloc (.cells #[I 0,I 0,I 0,I 0,I 0,I 0,I 0,I 0] 26)=w4 at *
  generalize w3.heap.size=g7 at *
  go_upto_region 10 with fail
  go_loopw [43] (fun s43 wr=>∃(i:Nat),i≤c∧s43=I (i:Int)∧Hid (OwnU wr g3 30 #[.string nm,.string sy,I e0,I e1,I e2,I e3,I e4,I e5,I e6,I e7,.string fn,.string fd,.string ⟨#[48]⟩,.string ⟨#[49]⟩,I tk])∧Hid (OwnU wr g7 26 (dA (acc i 0) (acc i 1) (acc i 2) (acc i 3) (acc i 4) (acc i 5) (acc i 6) (acc i 7)))∧Hid (RowP wr a c sf ef)∧Hid (Below w.heap.size w wr)) (fun s43 _=>c - (intOf s43).toNat)
  case atStart=>exact⟨0,by omega,rfl,HU4,HD4,HP4,HB4⟩
  case round=>
    clear HU4 HD4 HP4 HB4
    obtain⟨i,hi,rfl,HU,HD,HP,HB⟩:=hrel
    by_cases hlt:i<c
    · have hiI:(i:Int)<(c:Int):=by omega
      have hi0:(0:Int)≤(i:Int):=by omega
      obtain⟨g1,rfl,l1,r1⟩:=un HP (by omega)
      obtain⟨p1,p2⟩:=r1 i (Nat.zero_le _) hlt
      have HKI:=hide (un HKG i hlt);have H15I:=hide (un H15 i hlt);have H16I:=hide (un H16 i hlt);have H17I:=hide (un H17 i hlt)
      obtain⟨g1',e1',l17⟩:=un HN4 (by omega)
      obtain rfl:g1=g1':=by simpa using e1'
      have HL1:=hide l17
      clear e1' l17 l1 r1
      generalize sf i=yi at *
      generalize ef i=ei at *
      go_upto_region 12 with (refine storeT 40 2 info40s rfl (.tmp 9) (.tmp 46) rfl wr.heap.size #[.string ⟨#[]⟩,I 0] #[.string yi,I ei] rfl rfl rfl rfl (OwnU.new _ _ _) (by kernel_rfl) ?_)
      have hb5:Below wr.heap.size wr ((wr.alloc (.cells #[.string ⟨#[]⟩,I 0] 40)).setRow wr.heap.size #[.string yi,I ei]):=below_setRow (albel _ _) (Nat.le_refl _) _
      have HQ5:Hid (OwnU ((wr.alloc (.cells #[.string ⟨#[]⟩,I 0] 40)).setRow wr.heap.size #[.string yi,I ei]) wr.heap.size 40 #[.string yi,I ei]):=(OwnU.new _ _ _).setRow _
      have HU5:=hide ((un HU).later hb5);have HD5:=hide ((un HD).later hb5);have HP5:=hide ((un HP).later hb5);have HB5:Hid (Below w.heap.size w _):=(un HB).trans (hb5.mono (un HB).size)
      have HL9:Hid (g7<wr.heap.size):=(un HD).lt
      clear hb5 HU HD HP HB p1 p2
      generalize (wr.alloc (.cells #[.string ⟨#[]⟩,I 0] 40)).setRow wr.heap.size #[.string yi,I ei]=w5 at *
      generalize wr.heap.size=g9 at *
      have q0:w5.cell? ⟨g9,0,none⟩=some (.string yi):=(un HQ5).ub.c 0 _ rfl
      rcases un HKI with ⟨hk,hsx⟩|⟨hk,hsx⟩
      all_goals
        rw[hsx]at H15I
        clear hsx HKI
        go_upto_region 16 with (first
          | (go_at_call 15;go_must(refine(un H15I _ (un HB5)).mono ?_;rintro e w6 ⟨rfl,hb⟩;have HQ6:=hide ((un HQ5).later hb);have HU6:=hide ((un HU5).later hb);have HD6:=hide ((un HD5).later hb);have HP6:=hide ((un HP5).later hb);have HB6:Hid (Below w.heap.size w w6):=(un HB5).trans (hb.mono (un HB5).size);clear hb HQ5 HU5 HD5 HP5 HB5 q0))
          | (refine storeT 30 15 info27 rfl (.tmp 11) (.tmp 54) rfl w6.heap.size z15 #[.string (bnm i),.string (bsy i),I (bd i 0),I (bd i 1),I (bd i 2),I (bd i 3),I (bd i 4),I (bd i 5),I (bd i 6),I (bd i 7),.string (bfn i),.string (bfd i),.string (bon i),.string (bod i),I (btk i)] rfl rfl rfl rfl (OwnU.new _ _ _) (by kernel_rfl) ?_))
        have hb7:Below w6.heap.size w6 ((w6.alloc (.cells z15 30)).setRow w6.heap.size #[.string (bnm i),.string (bsy i),I (bd i 0),I (bd i 1),I (bd i 2),I (bd i 3),I (bd i 4),I (bd i 5),I (bd i 6),I (bd i 7),.string (bfn i),.string (bfd i),.string (bon i),.string (bod i),I (btk i)]):=below_setRow (albel _ _) (Nat.le_refl _) _
        have HW7:Hid (OwnU ((w6.alloc (.cells z15 30)).setRow w6.heap.size #[.string (bnm i),.string (bsy i),I (bd i 0),I (bd i 1),I (bd i 2),I (bd i 3),I (bd i 4),I (bd i 5),I (bd i 6),I (bd i 7),.string (bfn i),.string (bfd i),.string (bon i),.string (bod i),I (btk i)]) w6.heap.size 30 #[.string (bnm i),.string (bsy i),I (bd i 0),I (bd i 1),I (bd i 2),I (bd i 3),I (bd i 4),I (bd i 5),I (bd i 6),I (bd i 7),.string (bfn i),.string (bfd i),.string (bon i),.string (bod i),I (btk i)]):=(OwnU.new _ _ _).setRow _
        have HQ7:=hide ((un HQ6).later hb7);have HU7:=hide ((un HU6).later hb7);have HD7:=hide ((un HD6).later hb7);have HP7:=hide ((un HP6).later hb7);have HB7:Hid (Below w.heap.size w _):=(un HB6).trans (hb7.mono (un HB6).size)
        clear hb7 HQ6 HU6 HD6 HP6 HB6
        generalize (w6.alloc (.cells z15 30)).setRow w6.heap.size #[.string (bnm i),.string (bsy i),I (bd i 0),I (bd i 1),I (bd i 2),I (bd i 3),I (bd i 4),I (bd i 5),I (bd i 6),I (bd i 7),.string (bfn i),.string (bfd i),.string (bon i),.string (bod i),I (btk i)]=w7 at *
        generalize w6.heap.size=g11 at *
        have q1:w7.cell? ⟨g9,1,none⟩=some (I ei):=(un HQ7).ub.c 1 _ rfl
        have b0:w7.cell? ⟨g11,2,none⟩=some (I (bd i 0)):=(un HW7).ub.c 2 _ rfl;have b1:w7.cell? ⟨g11,3,none⟩=some (I (bd i 1)):=(un HW7).ub.c 3 _ rfl;have b2:w7.cell? ⟨g11,4,none⟩=some (I (bd i 2)):=(un HW7).ub.c 4 _ rfl;have b3:w7.cell? ⟨g11,5,none⟩=some (I (bd i 3)):=(un HW7).ub.c 5 _ rfl;have b4:w7.cell? ⟨g11,6,none⟩=some (I (bd i 4)):=(un HW7).ub.c 6 _ rfl;have b5:w7.cell? ⟨g11,7,none⟩=some (I (bd i 5)):=(un HW7).ub.c 7 _ rfl;have b6:w7.cell? ⟨g11,8,none⟩=some (I (bd i 6)):=(un HW7).ub.c 8 _ rfl;have b7:w7.cell? ⟨g11,9,none⟩=some (I (bd i 7)):=(un HW7).ub.c 9 _ rfl
        go_upto_region 17 with (first
          | (go_at_call 16;go_must(refine(un H16I _).mono ?_;rintro e w8 ⟨rfl,hb⟩;have HU8:=hide ((un HU7).later hb);have HD8:=hide ((un HD7).later hb);have HP8:=hide ((un HP7).later hb);have HB8:Hid (Below w.heap.size w w8):=(un HB7).trans (hb.mono (un HB7).size);clear hb HQ7 HU7 HD7 HP7 HB7 HW7 q1 b0 b1 b2 b3 b4 b5 b6 b7))
          | (refine storeT 26 8 info26 rfl (.tmp 13) (.tmp 62) rfl w8.heap.size #[I 0,I 0,I 0,I 0,I 0,I 0,I 0,I 0] (dA (pd i 0) (pd i 1) (pd i 2) (pd i 3) (pd i 4) (pd i 5) (pd i 6) (pd i 7)) rfl rfl rfl rfl (OwnU.new _ _ _) (by kernel_rfl) ?_))
        have hb9:Below w8.heap.size w8 ((w8.alloc (.cells #[I 0,I 0,I 0,I 0,I 0,I 0,I 0,I 0] 26)).setRow w8.heap.size (dA (pd i 0) (pd i 1) (pd i 2) (pd i 3) (pd i 4) (pd i 5) (pd i 6) (pd i 7))):=below_setRow (albel _ _) (Nat.le_refl _) _
        have HX9:Hid (OwnU ((w8.alloc (.cells #[I 0,I 0,I 0,I 0,I 0,I 0,I 0,I 0] 26)).setRow w8.heap.size (dA (pd i 0) (pd i 1) (pd i 2) (pd i 3) (pd i 4) (pd i 5) (pd i 6) (pd i 7))) w8.heap.size 26 (dA (pd i 0) (pd i 1) (pd i 2) (pd i 3) (pd i 4) (pd i 5) (pd i 6) (pd i 7))):=(OwnU.new _ _ _).setRow _
        have HU9:=hide ((un HU8).later hb9);have HD9:=hide ((un HD8).later hb9);have HP9:=hide ((un HP8).later hb9);have HB9:Hid (Below w.heap.size w _):=(un HB8).trans (hb9.mono (un HB8).size)
        clear hb9 HU8 HD8 HP8 HB8
        generalize (w8.alloc (.cells #[I 0,I 0,I 0,I 0,I 0,I 0,I 0,I 0] 26)).setRow w8.heap.size (dA (pd i 0) (pd i 1) (pd i 2) (pd i 3) (pd i 4) (pd i 5) (pd i 6) (pd i 7))=w9 at *
        generalize w8.heap.size=g13 at *
        have HMC:Hid (∀W,W=w9.alloc (.cells #[I (acc i 0),I (acc i 1),I (acc i 2),I (acc i 3),I (acc i 4),I (acc i 5),I (acc i 6),I (acc i 7),I (pd i 0),I (pd i 1),I (pd i 2),I (pd i 3),I (pd i 4),I (pd i 5),I (pd i 6),I (pd i 7)] 26)→Calls Tryz.prog 17 #[.slice (some ⟨w9.heap.size,0,none⟩) 2 2] W fun r w'=>r=.returned (.tuple #[.agg (dA (acc (i+1) 0) (acc (i+1) 1) (acc (i+1) 2) (acc (i+1) 3) (acc (i+1) 4) (acc (i+1) 5) (acc (i+1) 6) (acc (i+1) 7)),I 0])∧Below W.heap.size W w'):=fun W hW=>un H17I W _ (by rw[hW];exact OwnU.new _ _ _)
        obtain⟨a0,a1,a2,a3,a4,a5,a6,a7⟩:=dc (un HD9)
        obtain⟨m0,m1,m2,m3,m4,m5,m6,m7⟩:=dc (un HX9)
        go_upto_region 20 with (first
          | (go_at_call 17;go_must(refine(un HMC _ rfl).mono ?_;rintro e wa ⟨rfl,hb⟩;have HUa:=hide (((un HU9).alloc _).later hb);have HDa:=hide (((un HD9).alloc _).later hb);have HPa:=hide (((un HP9).later (albel _ _)).later hb);have HBa:Hid (Below w.heap.size w wa):=((un HB9).alloc (un HB9).size _).trans (hb.mono ((un HB9).alloc (un HB9).size _).size);clear hb HMC HU9 HD9 HP9 HB9 HX9 a0 a1 a2 a3 a4 a5 a6 a7 m0 m1 m2 m3 m4 m5 m6 m7))
          | (refine storeT 26 8 info26 rfl (.tmp 7) (.tmp 75) rfl g7 (dA (acc i 0) (acc i 1) (acc i 2) (acc i 3) (acc i 4) (acc i 5) (acc i 6) (acc i 7)) (dA (acc (i+1) 0) (acc (i+1) 1) (acc (i+1) 2) (acc (i+1) 3) (acc (i+1) 4) (acc (i+1) 5) (acc (i+1) 6) (acc (i+1) 7)) rfl rfl rfl rfl (un HDa) (by kernel_rfl) ?_))
        have HDb:=hide ((un HDa).setRow (dA (acc (i+1) 0) (acc (i+1) 1) (acc (i+1) 2) (acc (i+1) 3) (acc (i+1) 4) (acc (i+1) 5) (acc (i+1) 6) (acc (i+1) 7)))
        have HUb:=hide ((un HUa).otherRow (us:=(dA (acc (i+1) 0) (acc (i+1) 1) (acc (i+1) 2) (acc (i+1) 3) (acc (i+1) 4) (acc (i+1) 5) (acc (i+1) 6) (acc (i+1) 7))) (show ¬g7=g3 by have:=(un HL7).2;omega))
        have HPb:Hid (RowP (wa.setRow g7 (dA (acc (i+1) 0) (acc (i+1) 1) (acc (i+1) 2) (acc (i+1) 3) (acc (i+1) 4) (acc (i+1) 5) (acc (i+1) 6) (acc (i+1) 7))) (some ⟨g1,0,none⟩) c sf ef):=(un HPa).otherRow _ (show ∀g,(some ⟨g1,0,none⟩:Option Addr)=some ⟨g,0,none⟩→g≠g7 from fun g e=>by have:=un HL1;simp at e;omega)
        have HBb:Hid (Below w.heap.size w (wa.setRow g7 (dA (acc (i+1) 0) (acc (i+1) 1) (acc (i+1) 2) (acc (i+1) 3) (acc (i+1) 4) (acc (i+1) 5) (acc (i+1) 6) (acc (i+1) 7)))):=below_setRow (un HBa) (un HL7).1 _
        clear HUa HDa HPa HBa
        go_wp2_with fail
        go_roundw
        case rel=>exact⟨i+1,by omega,by go_num,HUb,HDb,HPb,HBb⟩
        case measure=>simp[intOf];omega
    · have hiI:¬(i:Int)<(c:Int):=by omega
      have HI:Hid (i=c):=by show i=c;omega
      have HDc:Hid (OwnU wr g7 26 (dA e0 e1 e2 e3 e4 e5 e6 e7)):=by have h:=un HD;rw[un HI,(un HEE).1,(un HEE).2.1,(un HEE).2.2.1,(un HEE).2.2.2.1,(un HEE).2.2.2.2.1,(un HEE).2.2.2.2.2.1,(un HEE).2.2.2.2.2.2.1,(un HEE).2.2.2.2.2.2.2]at h;exact h
      clear HD HP H11 H11N H13 HKG H15 H16 H17 HN4
      go_upto_region 25 with (go_at_call 10;go_must(refine(refUnitsS _).mono ?_;rintro e W0 ⟨W,rfl,rfl,hb⟩;have HUW:=hide (fun k hk=>uAllS_at W k hk);have HGW:Hid (W.heap.size<(W.alloc (.cells uAllS 30)).heap.size):=(by show _<_;simp);have hbW:Below wr.heap.size wr (W.alloc (.cells uAllS 30)):=hb.alloc hb.size _;have HUx:=hide ((un HU).later hbW);have HDx:=hide ((un HDc).later hbW);have HBx:Hid (Below w.heap.size w (W.alloc (.cells uAllS 30))):=(un HB).trans (hbW.mono (un HB).size);clear hb hbW HU HDc HB;obtain⟨gU,hgU⟩:∃gU,gU=W.heap.size:=⟨_,rfl⟩;obtain⟨V3,hV3⟩:∃V3,V3=W.alloc (.cells uAllS 30):=⟨_,rfl⟩;rw[←hV3,←hgU]at HUW HGW;rw[←hV3]at HUx HDx HBx;rw[←hV3,←hgU];clear hgU hV3))
      have hc0:(0:Int)=((cn 0:Nat):Int):=by rw[un HC0];rfl
      go_loopw [15,83] (fun s15 s83 wr=>∃(k:Nat),k≤21∧s15=I (cn k:Int)∧s83=I (k:Int)∧Hid (∀i,i<29→UR wr gU i)∧Hid (gU<wr.heap.size)∧Hid (OwnU wr g3 30 #[.string nm,.string sy,I e0,I e1,I e2,I e3,I e4,I e5,I e6,I e7,.string fn,.string fd,.string ⟨#[48]⟩,.string ⟨#[49]⟩,I tk])∧Hid (OwnU wr g7 26 (dA e0 e1 e2 e3 e4 e5 e6 e7))∧Hid (Below w.heap.size w wr)) (fun _ s83 _=>21 - (intOf s83).toNat)
      case atStart=>exact⟨0,by omega,by rw[←hc0],rfl,HUW,HGW,HUx,HDx,HBx⟩
      case round=>
        clear HUW HGW HUx HDx HBx hc0 hiI hi HI
        obtain⟨k,hk,rfl,rfl,HR,HG,HU,HD,HB⟩:=hrel
        by_cases hk8:k<21
        · have hkI:(k:Int)<21:=by omega
          have hk0:(0:Int)≤(k:Int):=by omega
          have hcl:(cn k:Int)≤21:=by have:=un HCL k hk;omega
          have hcl0:(0:Int)≤(cn k:Int):=by omega
          have hrow:URE wr gU k (sut k).nm (sut k).sy (sfn k) (sfd k) (evF (sut k)) (sut k).tk:=un HR k (by omega)
          have HCK:=hide (un HCN k hk8)
          generalize (sut k).nm=rn at *
          generalize (sut k).sy=ry at *
          generalize evF (sut k)=ev at *
          generalize (sut k).tk=rt at *
          generalize sfn k=rf at *
          generalize sfd k=rd at *
          have c0:wr.cell? ⟨gU,k*15,none⟩=some (.string rn):=hrow 0 _ rfl
          have c1:wr.cell? ⟨gU,k*15+1,none⟩=some (.string ry):=hrow 1 _ rfl
          have c2:wr.cell? ⟨gU,k*15+2,none⟩=some (I (ev 0)):=hrow 2 _ rfl
          have c3:wr.cell? ⟨gU,k*15+3,none⟩=some (I (ev 1)):=hrow 3 _ rfl
          have c4:wr.cell? ⟨gU,k*15+4,none⟩=some (I (ev 2)):=hrow 4 _ rfl
          have c5:wr.cell? ⟨gU,k*15+5,none⟩=some (I (ev 3)):=hrow 5 _ rfl
          have c6:wr.cell? ⟨gU,k*15+6,none⟩=some (I (ev 4)):=hrow 6 _ rfl
          have c7:wr.cell? ⟨gU,k*15+7,none⟩=some (I (ev 5)):=hrow 7 _ rfl
          have c8:wr.cell? ⟨gU,k*15+8,none⟩=some (I (ev 6)):=hrow 8 _ rfl
          have c9:wr.cell? ⟨gU,k*15+9,none⟩=some (I (ev 7)):=hrow 9 _ rfl
          have c10:wr.cell? ⟨gU,k*15+10,none⟩=some (.string rf):=hrow 10 _ rfl
          have c11:wr.cell? ⟨gU,k*15+11,none⟩=some (.string rd):=hrow 11 _ rfl
          have c12:wr.cell? ⟨gU,k*15+12,none⟩=some (.string ⟨#[48]⟩):=hrow 12 _ rfl
          have c13:wr.cell? ⟨gU,k*15+13,none⟩=some (.string ⟨#[49]⟩):=hrow 13 _ rfl
          have c14:wr.cell? ⟨gU,k*15+14,none⟩=some (I rt):=hrow 14 _ rfl
          clear hrow
          go_upto_region 27 with (refine storeT 30 15 info27 rfl (.tmp 17) (.tmp 86) rfl wr.heap.size z15 #[.string rn,.string ry,I (ev 0),I (ev 1),I (ev 2),I (ev 3),I (ev 4),I (ev 5),I (ev 6),I (ev 7),.string rf,.string rd,.string ⟨#[48]⟩,.string ⟨#[49]⟩,I rt] rfl rfl rfl rfl (OwnU.new _ _ _) (by kernel_rfl) ?_)
          clear c0 c1 c2 c3 c4 c5 c6 c7 c8 c9 c10 c11 c12 c13 c14
          have hb2:Below wr.heap.size wr ((wr.alloc (.cells z15 30)).setRow wr.heap.size #[.string rn,.string ry,I (ev 0),I (ev 1),I (ev 2),I (ev 3),I (ev 4),I (ev 5),I (ev 6),I (ev 7),.string rf,.string rd,.string ⟨#[48]⟩,.string ⟨#[49]⟩,I rt]):=below_setRow (albel _ _) (Nat.le_refl _) _
          have HX2:Hid (OwnU ((wr.alloc (.cells z15 30)).setRow wr.heap.size #[.string rn,.string ry,I (ev 0),I (ev 1),I (ev 2),I (ev 3),I (ev 4),I (ev 5),I (ev 6),I (ev 7),.string rf,.string rd,.string ⟨#[48]⟩,.string ⟨#[49]⟩,I rt]) wr.heap.size 30 #[.string rn,.string ry,I (ev 0),I (ev 1),I (ev 2),I (ev 3),I (ev 4),I (ev 5),I (ev 6),I (ev 7),.string rf,.string rd,.string ⟨#[48]⟩,.string ⟨#[49]⟩,I rt]):=(OwnU.new _ _ _).setRow _
          have HB2:Hid (Below w.heap.size w _):=(un HB).trans (hb2.mono (un HB).size)
          have HR2:Hid (∀i,i<29→UR _ gU i):=fun i hi=>(un HR i hi).later hb2 (un HG)
          have HG2:Hid (gU<_):=Nat.lt_of_lt_of_le (un HG) hb2.size
          have HU2:=hide ((un HU).later hb2);have HD2:=hide ((un HD).later hb2)
          clear hb2 HB HR HG HU HD
          generalize (wr.alloc (.cells z15 30)).setRow wr.heap.size #[.string rn,.string ry,I (ev 0),I (ev 1),I (ev 2),I (ev 3),I (ev 4),I (ev 5),I (ev 6),I (ev 7),.string rf,.string rd,.string ⟨#[48]⟩,.string ⟨#[49]⟩,I rt]=wy at *
          generalize wr.heap.size=g17 at *
          have d0:wy.cell? ⟨g17,0,none⟩=some (.string rn):=(un HX2).ub.c 0 _ rfl
          have d1:wy.cell? ⟨g3,0,none⟩=some (.string nm):=(un HU2).ub.c 0 _ rfl
          cases hB:(rn.toList == nm.toList)with
          | true=>
            rw[hB,if_pos rfl]at HCK
            go_wp2_with fail
            go_roundw
            case rel=>exact⟨k+1,by omega,by rw[un HCK];go_num,by go_num,HR2,HG2,HU2,HD2,HB2⟩
            case measure=>simp[intOf];omega
          | false=>
            rw[hB,if_neg (by decide)]at HCK
            go_wp2_with fail
            go_roundw
            case rel=>exact⟨k+1,by omega,by rw[un HCK],by go_num,HR2,HG2,HU2,HD2,HB2⟩
            case measure=>simp[intOf];omega
        · have hkI:¬(k:Int)<21:=by omega
          obtain rfl:k=21:=by omega
          have heq:=Dm.eqIn24 e0 e1 e2 e3 e4 e5 e6 e7 e0 e1 e2 e3 e4 e5 e6 e7
          rw[Dm.eqB_self]at heq
          have her:=eqR
          have he0:=eqR0
          obtain⟨a0,a1,a2,a3,a4,a5,a6,a7⟩:=dc (un HD)
          have v0:wr.cell? ⟨g3,0,none⟩=some (.string nm):=(un HU).ub.c 0 _ rfl
          have v1:wr.cell? ⟨g3,1,none⟩=some (.string sy):=(un HU).ub.c 1 _ rfl
          have v2:wr.cell? ⟨g3,2,none⟩=some (I e0):=(un HU).ub.c 2 _ rfl
          have v3:wr.cell? ⟨g3,3,none⟩=some (I e1):=(un HU).ub.c 3 _ rfl
          have v4:wr.cell? ⟨g3,4,none⟩=some (I e2):=(un HU).ub.c 4 _ rfl
          have v5:wr.cell? ⟨g3,5,none⟩=some (I e3):=(un HU).ub.c 5 _ rfl
          have v6:wr.cell? ⟨g3,6,none⟩=some (I e4):=(un HU).ub.c 6 _ rfl
          have v7:wr.cell? ⟨g3,7,none⟩=some (I e5):=(un HU).ub.c 7 _ rfl
          have v8:wr.cell? ⟨g3,8,none⟩=some (I e6):=(un HU).ub.c 8 _ rfl
          have v9:wr.cell? ⟨g3,9,none⟩=some (I e7):=(un HU).ub.c 9 _ rfl
          have v10:wr.cell? ⟨g3,10,none⟩=some (.string fn):=(un HU).ub.c 10 _ rfl
          have v11:wr.cell? ⟨g3,11,none⟩=some (.string fd):=(un HU).ub.c 11 _ rfl
          have v12:wr.cell? ⟨g3,12,none⟩=some (.string ⟨#[48]⟩):=(un HU).ub.c 12 _ rfl
          have v13:wr.cell? ⟨g3,13,none⟩=some (.string ⟨#[49]⟩):=(un HU).ub.c 13 _ rfl
          have v14:wr.cell? ⟨g3,14,none⟩=some (I tk):=(un HU).ub.c 14 _ rfl
          by_cases hn:cn 21=0
          · rw[hn]at *
            go_wp2_with fail
            go_ret
            exact⟨rfl,un HB⟩
          · have hnI:((cn 21:Int) == 0)=false:=by simp;omega
            obtain⟨rfl,rfl⟩:=(un HFI).resolve_left hn
            go_wp2_with fail
            go_ret
            exact⟨rfl,un HB⟩
end Go.Proofs.YthcbhnggphdflaaGreatDoor

namespace Go.Proofs.YthcbhnggphdflaaGreatDoor
open Go.RowKit
def kgx (s:ByteArray):ByteArray:=if (s.toList == [107,103])=true then⟨#[103]⟩else s
def bIx (s:ByteArray):Nat:=((List.range 8).find? (scB s)).getD 0
def uS (v:Option Value):ByteArray:=match v with|some (.string s)=>s|_=>⟨#[]⟩
def uI (v:Option Value):Int:=match v with|some (.int _ x)=>x|_=>0
def bU (j:Nat):Array Value:=#[.string (uS (sct j).u[0]?),.string (uS (sct j).u[1]?),I (uI (sct j).u[2]?),I (uI (sct j).u[3]?),I (uI (sct j).u[4]?),I (uI (sct j).u[5]?),I (uI (sct j).u[6]?),I (uI (sct j).u[7]?),I (uI (sct j).u[8]?),I (uI (sct j).u[9]?),.string (uS (sct j).u[10]?),.string (uS (sct j).u[11]?),.string (uS (sct j).u[12]?),.string (uS (sct j).u[13]?),I (uI (sct j).u[14]?)]
theorem sct_u:∀j,j<8→(sct j).u=bU j
 | 0,_=>by kernel_rfl
 | 1,_=>by kernel_rfl
 | 2,_=>by kernel_rfl
 | 3,_=>by kernel_rfl
 | 4,_=>by kernel_rfl
 | 5,_=>by kernel_rfl
 | 6,_=>by kernel_rfl
 | 7,_=>by kernel_rfl
 | _+8,h=>absurd h (by omega)
def cL (k:Nat):List Value:=mkL (evF (sut k)) 8
def cC (k:Nat):Nat:=cntM (evF (sut k)) 8
def cX (k i:Nat):ByteArray:=kgx (sAt (cL k) i)
def cB (k i j:Nat):Int:=uI (sct (bIx (cX k i))).u[2+j]?
def cP (k i j:Nat):Int:=cB k i j*eAt (cL k) i
def cA (k:Nat):Nat→Nat→Int
 | 0,_=>0
 | i+1,j=>cA k i j+cP k i j
def cN (k:Nat):Nat→Nat
 | 0=>0
 | i+1=>if ((sut i).nm.toList == (sut k).nm.toList)=true then cN k i+1 else cN k i
theorem cert1:∀k,k<29→∀i,i<8→i<cC k→bIx (cX k i)<8∧scB (cX k i) (bIx (cX k i))=true∧∀q,q<bIx (cX k i)→scB (cX k i) q=false:=by decide +kernel
theorem cert2:∀k,k<29→∀i,i<8→i<cC k→(Dm.rightB [cB k i 0,cB k i 1,cB k i 2,cB k i 3,cB k i 4,cB k i 5,cB k i 6,cB k i 7] && Dm.rightB [cP k i 0,cP k i 1,cP k i 2,cP k i 3,cP k i 4,cP k i 5,cP k i 6,cP k i 7])=true∧Dm.powErr (Dm.rightB [cB k i 0,cB k i 1,cB k i 2,cB k i 3,cB k i 4,cB k i 5,cB k i 6,cB k i 7]) [cP k i 0,cP k i 1,cP k i 2,cP k i 3,cP k i 4,cP k i 5,cP k i 6,cP k i 7]=0:=by decide +kernel
theorem cert3:∀k,k<29→∀i,i<8→i<cC k→mulL [cA k i 0,cA k i 1,cA k i 2,cA k i 3,cA k i 4,cA k i 5,cA k i 6,cA k i 7,cP k i 0,cP k i 1,cP k i 2,cP k i 3,cP k i 4,cP k i 5,cP k i 6,cP k i 7]=[cA k (i+1) 0,cA k (i+1) 1,cA k (i+1) 2,cA k (i+1) 3,cA k (i+1) 4,cA k (i+1) 5,cA k (i+1) 6,cA k (i+1) 7]∧Dm.mulErr (X2 [cA k i 0,cA k i 1,cA k i 2,cA k i 3,cA k i 4,cA k i 5,cA k i 6,cA k i 7,cP k i 0,cP k i 1,cP k i 2,cP k i 3,cP k i 4,cP k i 5,cP k i 6,cP k i 7]) 2=0:=by decide +kernel
theorem cert4:∀k,k<29→[cA k (cC k) 0,cA k (cC k) 1,cA k (cC k) 2,cA k (cC k) 3,cA k (cC k) 4,cA k (cC k) 5,cA k (cC k) 6,cA k (cC k) 7]=[(sut k).e0,(sut k).e1,(sut k).e2,(sut k).e3,(sut k).e4,(sut k).e5,(sut k).e6,(sut k).e7]:=by decide +kernel
theorem cert5:∀k,k<29→(∀i,i<22→cN k i≤21)∧(cN k 21=0∨(sfn k=⟨#[49]⟩∧sfd k=⟨#[49]⟩)):=by decide +kernel
theorem cC_le (k:Nat):cC k≤8:=cntM_le _ 8
theorem c_kg (k i:Nat):(((sAt (cL k) i).toList == [107,103])=true∧cX k i=⟨#[103]⟩)∨(((sAt (cL k) i).toList == [107,103])=false∧cX k i=sAt (cL k) i):=by
 unfold cX kgx
 by_cases h:((sAt (cL k) i).toList == [107,103])=true
 ·exact Or.inl ⟨h,if_pos h⟩
 ·exact Or.inr ⟨by simpa using h,if_neg h⟩
theorem c_15 (k:Nat) (hk:k<29) (i:Nat) (hi:i<cC k) (W:World) (ht:Tab W):Calls Tryz.prog 15 #[.string (cX k i)] W fun r w'=>r=.returned (.tuple #[.agg (bU (bIx (cX k i))),.bool true])∧Below W.heap.size W w' :=
 (find_any _ W ht).mono (by
  rintro r w' ⟨v,rfl,hv,hb⟩
  obtain⟨c1,c2,c3⟩:=cert1 k hk i (Nat.lt_of_lt_of_le hi (cC_le k)) hi
  rw[hv.det (Or.inl ⟨_,c1,Or.inl ⟨_,c1,rfl,c2,c3⟩,rfl⟩),sct_u _ c1]
  exact⟨rfl,hb⟩)
theorem c_16 (k:Nat) (hk:k<29) (i:Nat) (hi:i<cC k) (W:World):Calls Tryz.prog 16 #[.agg (dA (cB k i 0) (cB k i 1) (cB k i 2) (cB k i 3) (cB k i 4) (cB k i 5) (cB k i 6) (cB k i 7)),I (eAt (cL k) i)] W fun r w'=>r=.returned (.tuple #[.agg (dA (cP k i 0) (cP k i 1) (cP k i 2) (cP k i 3) (cP k i 4) (cP k i 5) (cP k i 6) (cP k i 7)),I 0])∧Below W.heap.size W w':=by
 have h:=Dm.pow_any (cB k i 0) (cB k i 1) (cB k i 2) (cB k i 3) (cB k i 4) (cB k i 5) (cB k i 6) (cB k i 7) (eAt (cL k) i) W
 obtain⟨c1,c2⟩:=cert2 k hk i (Nat.lt_of_lt_of_le hi (cC_le k)) hi
 unfold cP at c1 c2
 rw[c1,c2]at h
 exact h
theorem c_17 (k:Nat) (hk:k<29) (i:Nat) (hi:i<cC k) (W:World) (g:Nat) (hg:OwnU W g 26 #[I (cA k i 0),I (cA k i 1),I (cA k i 2),I (cA k i 3),I (cA k i 4),I (cA k i 5),I (cA k i 6),I (cA k i 7),I (cP k i 0),I (cP k i 1),I (cP k i 2),I (cP k i 3),I (cP k i 4),I (cP k i 5),I (cP k i 6),I (cP k i 7)]):Calls Tryz.prog 17 #[.slice (some ⟨g,0,none⟩) 2 2] W fun r w'=>r=.returned (.tuple #[.agg (dA (cA k (i+1) 0) (cA k (i+1) 1) (cA k (i+1) 2) (cA k (i+1) 3) (cA k (i+1) 4) (cA k (i+1) 5) (cA k (i+1) 6) (cA k (i+1) 7)),I 0])∧Below W.heap.size W w' :=
 mul_at (cA k i 0) (cA k i 1) (cA k i 2) (cA k i 3) (cA k i 4) (cA k i 5) (cA k i 6) (cA k i 7) (cP k i 0) (cP k i 1) (cP k i 2) (cP k i 3) (cP k i 4) (cP k i 5) (cP k i 6) (cP k i 7) (cA k (i+1) 0) (cA k (i+1) 1) (cA k (i+1) 2) (cA k (i+1) 3) (cA k (i+1) 4) (cA k (i+1) 5) (cA k (i+1) 6) (cA k (i+1) 7) g W hg (cert3 k hk i (Nat.lt_of_lt_of_le hi (cC_le k)) hi).1 (cert3 k hk i (Nat.lt_of_lt_of_le hi (cC_le k)) hi).2
theorem c_e (k:Nat) (hk:k<29):cA k (cC k) 0=(sut k).e0∧cA k (cC k) 1=(sut k).e1∧cA k (cC k) 2=(sut k).e2∧cA k (cC k) 3=(sut k).e3∧cA k (cC k) 4=(sut k).e4∧cA k (cC k) 5=(sut k).e5∧cA k (cC k) 6=(sut k).e6∧cA k (cC k) 7=(sut k).e7:=by
 have h:=cert4 k hk
 simp only[List.cons.injEq,and_true]at h
 exact h
theorem watt_first:IsF29 (suB ⟨#[119,97,116,116]⟩) ((3:Nat):Int):=Or.inl ⟨3,by decide,rfl,by decide +kernel,by decide +kernel⟩
theorem law_coh (s:ByteArray) (w:World) (htab:Tab w):Calls Tryz.prog 6 #[.string s] w fun r w'=>r=.returned (.bool true)∧Below w.heap.size w w':=by
 rcases first_ex (suB s)with ⟨k,hk,hf⟩|hf
 ·exact coh_found s w (sut k).nm (sut k).sy (sfn k) (sfd k) (sut k).e0 (sut k).e1 (sut k).e2 (sut k).e3 (sut k).e4 (sut k).e5 (sut k).e6 (sut k).e7 (sut k).tk (cC k) (cC_le k) (sAt (cL k)) (cX k) (eAt (cL k)) (fun i=>uS (sct (bIx (cX k i))).u[0]?) (fun i=>uS (sct (bIx (cX k i))).u[1]?) (fun i=>uS (sct (bIx (cX k i))).u[10]?) (fun i=>uS (sct (bIx (cX k i))).u[11]?) (fun i=>uS (sct (bIx (cX k i))).u[12]?) (fun i=>uS (sct (bIx (cX k i))).u[13]?) (fun i=>uI (sct (bIx (cX k i))).u[14]?) (cB k) (cP k) (cA k) (fun W hb=>siFind_yes s k hk hf W (htab.later hb)) (fun W hb=>made_shape13 s k hf W (htab.later hb)) (fun i _=>c_kg k i) (fun i hi W hb=>c_15 k hk i hi W (htab.later hb)) (fun i hi W=>c_16 k hk i hi W) (fun i hi W g hg=>c_17 k hk i hi W g hg) (fun _=>rfl) (c_e k hk) (cN k) rfl (fun q hq=>(cert5 k hk).1 q (by omega)) (fun _ _=>rfl) (cert5 k hk).2
 ·exact coh_none s w (sut 3).nm (sut 3).sy (sfn 3) (sfd 3) (sut 3).e0 (sut 3).e1 (sut 3).e2 (sut 3).e3 (sut 3).e4 (sut 3).e5 (sut 3).e6 (sut 3).e7 (sut 3).tk (cC 3) (cC_le 3) (sAt (cL 3)) (cX 3) (eAt (cL 3)) (fun i=>uS (sct (bIx (cX 3 i))).u[0]?) (fun i=>uS (sct (bIx (cX 3 i))).u[1]?) (fun i=>uS (sct (bIx (cX 3 i))).u[10]?) (fun i=>uS (sct (bIx (cX 3 i))).u[11]?) (fun i=>uS (sct (bIx (cX 3 i))).u[12]?) (fun i=>uS (sct (bIx (cX 3 i))).u[13]?) (fun i=>uI (sct (bIx (cX 3 i))).u[14]?) (cB 3) (cP 3) (cA 3) (fun W _=>siFind_none s W hf) (fun W hb=>siFind_yes _ 3 (by decide) watt_first W (htab.later hb)) (fun W hb=>made_shape13 _ 3 watt_first W (htab.later hb)) (fun i _=>c_kg 3 i) (fun i hi W hb=>c_15 3 (by decide) i hi W (htab.later hb)) (fun i hi W=>c_16 3 (by decide) i hi W) (fun i hi W g hg=>c_17 3 (by decide) i hi W g hg) (fun _=>rfl) (c_e 3 (by decide)) (cN 3) rfl (fun q hq=>(cert5 3 (by decide)).1 q (by omega)) (fun _ _=>rfl) (cert5 3 (by decide)).2
end Go.Proofs.YthcbhnggphdflaaGreatDoor

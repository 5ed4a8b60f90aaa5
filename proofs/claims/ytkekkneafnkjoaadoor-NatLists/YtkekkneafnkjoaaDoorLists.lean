/- The walk of NatLists: it answers true, whatever it is handed. -/
import Derived.Test.YtkekkneafnkjoaaDoorListProd
import Derived.Test.YtkekkneafnkjoaaDoorKept
import Derived.Test.YtkekkneafnkjoaaDoorKnown
namespace Go.Proofs.YtkekkneafnkjoaaDoor
open Go.RowKit

set_option maxRecDepth 100000 in
set_option maxHeartbeats 2000000 in
theorem natLists_walk (a : Option Addr) (n cap : Nat) (ss : List ByteArray) (w : World) (hn : n = ss.length) (hmax : n ≤ 8796093022207) (hcap : a = none → cap = 0)
    (hc : InMem w a ss) (hs : ∀ i (hi : i < ss.length), ss[i].size ≤ maxLen) (htab : Tab w) :
    Calls Tryd.prog 7 #[.slice a n cap] w fun e w' => e = .returned (.bool true) ∧ Below w.heap.size w w' := by
  have H33 := hide (lent_any a n cap ss w hn hmax hcap hc)
  have H34 := hide (fun A C W (h : InMem W A ss) (ht : Tab W) => natSum_any A n C ss W hn (by omega) h hs ht)
  have H35 := hide (fun W (h : InMem W a ss) => refSum_any a n cap ss W hn (by omega) h hs)
  have H36 := hide (fun A C W (h : InMem W A ss) (ht : Tab W) => natProd_any A n C ss W hn (by omega) h hs ht)
  have H37 := hide (fun W (h : InMem W a ss) => refProd_any a n cap ss W hn (by omega) h hs)
  have H38 := hide (fun W v (hv : Lent W w.heap.size v n ss) (h : InMem W a ss) => kept_any v w.heap.size a n cap ss W hn hmax hv h)
  have HC := hide hc
  have HT := hide htab
  clear hn hc hs htab hcap
  generalize sumText ss = X1 at *
  generalize sumErr ss = E1 at *
  generalize prodText ss = X2 at *
  generalize prodErr ss = E2 at *
  go_enter Tryd.func7, Tryd.ntmps7
  go_wp2_with (first
    | (go_at_call 33; refine (unhide H33).mono ?_; rintro e w1 ⟨v, rfl, ⟨g, c2, rfl, h1, h2, h3, hin, hmk⟩, hb1⟩; have HL := hide (And.intro hin hmk); have hg := World.block_lt_of_cell? _ _ hmk; clear hin hmk)
    | (go_at_call 34; refine (unhide H34 _ _ _ (unhide HL).1 ((unhide HT).later hb1)).mono ?_; rintro e w2 ⟨rfl, hc2⟩; have hb2 := hb1.trans (hc2.mono hb1.size))
    | (go_at_call 35; refine (unhide H35 _ ((unhide HC).later hb2)).mono ?_; rintro e w3 ⟨rfl, hc3⟩; have hb3 := hb2.trans (hc3.mono hb2.size); have hd3 := hc2.trans (hc3.mono hc2.size))
    | (go_at_call 36; refine (unhide H36 _ _ _ ((unhide HL).1.later hd3) ((unhide HT).later hb3)).mono ?_; rintro e w4 ⟨rfl, hc4⟩; have hb4 := hb3.trans (hc4.mono hb3.size); have hd4 := hd3.trans (hc4.mono hd3.size))
    | (go_at_call 37; refine (unhide H37 _ ((unhide HC).later hb4)).mono ?_; rintro e w5 ⟨rfl, hc5⟩; have hb5 := hb4.trans (hc5.mono hb4.size); have hd5 := hd4.trans (hc5.mono hd4.size))
    | (go_at_call 38; refine (unhide H38 _ _ ⟨g, c2, rfl, h1, h2, h3, (unhide HL).1.later hd5, (hd5.cell hg).trans (unhide HL).2⟩ ((unhide HC).later hb5)).mono ?_; rintro e w6 ⟨rfl, hc6⟩; have hb6 := hb5.trans (hc6.mono hb5.size))
    | (go_at_call 16; refine (known_any _ ((unhide HT).later hb6)).mono ?_; rintro e w7 ⟨rfl, hc7⟩; have hb7 := hb6.trans (hc7.mono hb6.size)))
  all_goals go_ret
  all_goals exact ⟨rfl, hb7⟩
end Go.Proofs.YtkekkneafnkjoaaDoor

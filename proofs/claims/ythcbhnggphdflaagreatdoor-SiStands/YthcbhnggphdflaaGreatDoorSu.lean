/- si's units: one table. -/
import Derived.Test.YthcbhnggphdflaaGreatDoorLimb2
import Derived.Test.YthcbhnggphdflaaGreatDoorSi14a
import Derived.Test.YthcbhnggphdflaaGreatDoorSi13
import Derived.Test.YthcbhnggphdflaaGreatDoorMid
namespace Go.Proofs.YthcbhnggphdflaaGreatDoor
open Go.RowKit
structure Su where
 nm : ByteArray
 sy : ByteArray
 tk : Int
 e0 : Int
 e1 : Int
 e2 : Int
 e3 : Int
 e4 : Int
 e5 : Int
 e6 : Int
 e7 : Int
 n : Int
 d : Int
def sut : Nat → Su
 | 0 => ⟨⟨#[110, 101, 119, 116, 111, 110]⟩, ⟨#[78]⟩, 1, 1, 1, -2, 0, 0, 0, 0, 0, 1, 1⟩
 | 1 => ⟨⟨#[112, 97, 115, 99, 97, 108]⟩, ⟨#[80, 97]⟩, 1, -1, 1, -2, 0, 0, 0, 0, 0, 1, 1⟩
 | 2 => ⟨⟨#[106, 111, 117, 108, 101]⟩, ⟨#[74]⟩, 1, 2, 1, -2, 0, 0, 0, 0, 0, 1, 1⟩
 | 3 => ⟨⟨#[119, 97, 116, 116]⟩, ⟨#[87]⟩, 1, 2, 1, -3, 0, 0, 0, 0, 0, 1, 1⟩
 | 4 => ⟨⟨#[99, 111, 117, 108, 111, 109, 98]⟩, ⟨#[67]⟩, 1, 0, 0, 1, 1, 0, 0, 0, 0, 1, 1⟩
 | 5 => ⟨⟨#[118, 111, 108, 116]⟩, ⟨#[86]⟩, 1, 2, 1, -3, -1, 0, 0, 0, 0, 1, 1⟩
 | 6 => ⟨⟨#[102, 97, 114, 97, 100]⟩, ⟨#[70]⟩, 1, -2, -1, 4, 2, 0, 0, 0, 0, 1, 1⟩
 | 7 => ⟨⟨#[111, 104, 109]⟩, ⟨#[206, 169]⟩, 1, 2, 1, -3, -2, 0, 0, 0, 0, 1, 1⟩
 | 8 => ⟨⟨#[115, 105, 101, 109, 101, 110, 115]⟩, ⟨#[83]⟩, 1, -2, -1, 3, 2, 0, 0, 0, 0, 1, 1⟩
 | 9 => ⟨⟨#[119, 101, 98, 101, 114]⟩, ⟨#[87, 98]⟩, 1, 2, 1, -2, -1, 0, 0, 0, 0, 1, 1⟩
 | 10 => ⟨⟨#[116, 101, 115, 108, 97]⟩, ⟨#[84]⟩, 1, 0, 1, -2, -1, 0, 0, 0, 0, 1, 1⟩
 | 11 => ⟨⟨#[104, 101, 110, 114, 121]⟩, ⟨#[72]⟩, 1, 2, 1, -2, -2, 0, 0, 0, 0, 1, 1⟩
 | 12 => ⟨⟨#[104, 101, 114, 116, 122]⟩, ⟨#[72, 122]⟩, 1, 0, 0, -1, 0, 0, 0, 0, 0, 1, 1⟩
 | 13 => ⟨⟨#[98, 101, 99, 113, 117, 101, 114, 101, 108]⟩, ⟨#[66, 113]⟩, 1, 0, 0, -1, 0, 0, 0, 0, 0, 1, 1⟩
 | 14 => ⟨⟨#[103, 114, 97, 121]⟩, ⟨#[71, 121]⟩, 1, 2, 0, -2, 0, 0, 0, 0, 0, 1, 1⟩
 | 15 => ⟨⟨#[115, 105, 101, 118, 101, 114, 116]⟩, ⟨#[83, 118]⟩, 1, 2, 0, -2, 0, 0, 0, 0, 0, 1, 1⟩
 | 16 => ⟨⟨#[107, 97, 116, 97, 108]⟩, ⟨#[107, 97, 116]⟩, 1, 0, 0, -1, 0, 0, 1, 0, 0, 1, 1⟩
 | 17 => ⟨⟨#[114, 97, 100, 105, 97, 110]⟩, ⟨#[114, 97, 100]⟩, 1, 0, 0, 0, 0, 0, 0, 0, 0, 1, 1⟩
 | 18 => ⟨⟨#[115, 116, 101, 114, 97, 100, 105, 97, 110]⟩, ⟨#[115, 114]⟩, 1, 0, 0, 0, 0, 0, 0, 0, 0, 1, 1⟩
 | 19 => ⟨⟨#[108, 117, 109, 101, 110]⟩, ⟨#[108, 109]⟩, 1, 0, 0, 0, 0, 0, 0, 1, 0, 1, 1⟩
 | 20 => ⟨⟨#[108, 117, 120]⟩, ⟨#[108, 120]⟩, 1, -2, 0, 0, 0, 0, 0, 1, 0, 1, 1⟩
 | 21 => ⟨⟨#[109, 105, 110, 117, 116, 101]⟩, ⟨#[109, 105, 110]⟩, 0, 0, 0, 1, 0, 0, 0, 0, 0, 60, 1⟩
 | 22 => ⟨⟨#[104, 111, 117, 114]⟩, ⟨#[104]⟩, 0, 0, 0, 1, 0, 0, 0, 0, 0, 3600, 1⟩
 | 23 => ⟨⟨#[100, 97, 121]⟩, ⟨#[100]⟩, 0, 0, 0, 1, 0, 0, 0, 0, 0, 86400, 1⟩
 | 24 => ⟨⟨#[108, 105, 116, 114, 101]⟩, ⟨#[76]⟩, 1, 3, 0, 0, 0, 0, 0, 0, 0, 1, 1000⟩
 | 25 => ⟨⟨#[116, 111, 110, 110, 101]⟩, ⟨#[116]⟩, 1, 0, 1, 0, 0, 0, 0, 0, 0, 1000, 1⟩
 | 26 => ⟨⟨#[98, 97, 114]⟩, ⟨#[98, 97, 114]⟩, 1, -1, 1, -2, 0, 0, 0, 0, 0, 100000, 1⟩
 | 27 => ⟨⟨#[104, 101, 99, 116, 97, 114, 101]⟩, ⟨#[104, 97]⟩, 0, 2, 0, 0, 0, 0, 0, 0, 0, 10000, 1⟩
 | _ => ⟨⟨#[98, 121, 116, 101]⟩, ⟨#[66]⟩, 3, 0, 0, 0, 0, 0, 0, 0, 1, 8, 1⟩
def suL (s : Su) : List Value := [.string s.nm, .string s.sy, I s.tk, I s.e0, I s.e1, I s.e2, I s.e3, I s.e4, I s.e5, I s.e6, I s.e7, I s.n, I s.d]
def flatS (n : Nat) : List Value := (List.range n).flatMap fun i => suL (sut i)
theorem flatS_succ (n : Nat) : flatS (n + 1) = flatS n ++ suL (sut n) := by
 unfold flatS
 rw [List.range_succ, List.flatMap_append]
 simp
def cntG : Nat → Nat
 | 0 => 2
 | 1 => 1
 | 2 => 1
 | 3 => 8
 | 4 => 1
 | 5 => 4
 | 6 => 2
 | 7 => 2
 | _ => 8
def offG : Nat → Nat
 | 0 => 0
 | 1 => 2
 | 2 => 3
 | 3 => 4
 | 4 => 12
 | 5 => 13
 | 6 => 17
 | 7 => 19
 | 8 => 21
 | _ => 29
theorem offG_succ : ∀ k, k < 9 → offG (k + 1) = offG k + cntG k
 | 0, _ => rfl
 | 1, _ => rfl
 | 2, _ => rfl
 | 3, _ => rfl
 | 4, _ => rfl
 | 5, _ => rfl
 | 6, _ => rfl
 | 7, _ => rfl
 | 8, _ => rfl
 | _ + 9, h => absurd h (by omega)
theorem cntG_le : ∀ k, 1 ≤ cntG k ∧ cntG k ≤ 8
 | 0 => by decide
 | 1 => by decide
 | 2 => by decide
 | 3 => by decide
 | 4 => by decide
 | 5 => by decide
 | 6 => by decide
 | 7 => by decide
 | _ + 8 => by show 1 ≤ 8 ∧ 8 ≤ 8; decide
theorem offG_le : ∀ k, k < 9 → offG k + cntG k ≤ 29
 | 0, _ => by decide
 | 1, _ => by decide
 | 2, _ => by decide
 | 3, _ => by decide
 | 4, _ => by decide
 | 5, _ => by decide
 | 6, _ => by decide
 | 7, _ => by decide
 | 8, _ => by decide
 | _ + 9, h => absurd h (by omega)
theorem gAt_size : ∀ k, (gAt k).size = 81
 | 0 => rfl
 | 1 => rfl
 | 2 => rfl
 | 3 => rfl
 | 4 => rfl
 | 5 => rfl
 | 6 => rfl
 | 7 => rfl
 | _ + 8 => rfl
theorem gAt_ones : ∀ k, (gAt k).all (·.oneCell') = true
 | 0 => by kernel_rfl
 | 1 => by kernel_rfl
 | 2 => by kernel_rfl
 | 3 => by kernel_rfl
 | 4 => by kernel_rfl
 | 5 => by kernel_rfl
 | 6 => by kernel_rfl
 | 7 => by kernel_rfl
 | _ + 8 => by kernel_rfl
theorem gAt_cnt : ∀ k : Nat, (gAt k)[80]? = some (I (cntG k : Int))
 | 0 => rfl
 | 1 => rfl
 | 2 => rfl
 | 3 => rfl
 | 4 => rfl
 | 5 => rfl
 | 6 => rfl
 | 7 => rfl
 | _ + 8 => rfl
theorem allIx : ∀ k : Nat, k < 9 → ∀ w : World, (Instr.index 92 (.agg allG) (I (k : Int))).run Tryz.prog w = .ok (.agg (gAt k)) w
 | 0, _ => allIx0
 | 1, _ => allIx1
 | 2, _ => allIx2
 | 3, _ => allIx3
 | 4, _ => allIx4
 | 5, _ => allIx5
 | 6, _ => allIx6
 | 7, _ => allIx7
 | 8, _ => allIx8
 | _ + 9, h => absurd h (by omega)
structure Am (gA : Array Value) (j : Nat) (s : Su) : Prop where
 c0 : gA[j * 10]? = some (I s.e0)
 c1 : gA[j * 10 + 1]? = some (I s.e1)
 c2 : gA[j * 10 + 2]? = some (I s.e2)
 c3 : gA[j * 10 + 3]? = some (I s.e3)
 c4 : gA[j * 10 + 4]? = some (I s.e4)
 c5 : gA[j * 10 + 5]? = some (I s.e5)
 c6 : gA[j * 10 + 6]? = some (I s.e6)
 c7 : gA[j * 10 + 7]? = some (I s.e7)
 c8 : gA[j * 10 + 8]? = some (I s.n)
 c9 : gA[j * 10 + 9]? = some (I s.d)
theorem gAt_am : ∀ k j, k < 9 → j < cntG k → Am (gAt k) j (sut (offG k + j))
 | 0, 0, _, _ => ⟨rfl, rfl, rfl, rfl, rfl, rfl, rfl, rfl, rfl, rfl⟩
 | 0, 1, _, _ => ⟨rfl, rfl, rfl, rfl, rfl, rfl, rfl, rfl, rfl, rfl⟩
 | 0, _ + 2, _, h => absurd h (by show ¬ _ < 2; omega)
 | 1, 0, _, _ => ⟨rfl, rfl, rfl, rfl, rfl, rfl, rfl, rfl, rfl, rfl⟩
 | 1, _ + 1, _, h => absurd h (by show ¬ _ < 1; omega)
 | 2, 0, _, _ => ⟨rfl, rfl, rfl, rfl, rfl, rfl, rfl, rfl, rfl, rfl⟩
 | 2, _ + 1, _, h => absurd h (by show ¬ _ < 1; omega)
 | 3, 0, _, _ => ⟨rfl, rfl, rfl, rfl, rfl, rfl, rfl, rfl, rfl, rfl⟩
 | 3, 1, _, _ => ⟨rfl, rfl, rfl, rfl, rfl, rfl, rfl, rfl, rfl, rfl⟩
 | 3, 2, _, _ => ⟨rfl, rfl, rfl, rfl, rfl, rfl, rfl, rfl, rfl, rfl⟩
 | 3, 3, _, _ => ⟨rfl, rfl, rfl, rfl, rfl, rfl, rfl, rfl, rfl, rfl⟩
 | 3, 4, _, _ => ⟨rfl, rfl, rfl, rfl, rfl, rfl, rfl, rfl, rfl, rfl⟩
 | 3, 5, _, _ => ⟨rfl, rfl, rfl, rfl, rfl, rfl, rfl, rfl, rfl, rfl⟩
 | 3, 6, _, _ => ⟨rfl, rfl, rfl, rfl, rfl, rfl, rfl, rfl, rfl, rfl⟩
 | 3, 7, _, _ => ⟨rfl, rfl, rfl, rfl, rfl, rfl, rfl, rfl, rfl, rfl⟩
 | 3, _ + 8, _, h => absurd h (by show ¬ _ < 8; omega)
 | 4, 0, _, _ => ⟨rfl, rfl, rfl, rfl, rfl, rfl, rfl, rfl, rfl, rfl⟩
 | 4, _ + 1, _, h => absurd h (by show ¬ _ < 1; omega)
 | 5, 0, _, _ => ⟨rfl, rfl, rfl, rfl, rfl, rfl, rfl, rfl, rfl, rfl⟩
 | 5, 1, _, _ => ⟨rfl, rfl, rfl, rfl, rfl, rfl, rfl, rfl, rfl, rfl⟩
 | 5, 2, _, _ => ⟨rfl, rfl, rfl, rfl, rfl, rfl, rfl, rfl, rfl, rfl⟩
 | 5, 3, _, _ => ⟨rfl, rfl, rfl, rfl, rfl, rfl, rfl, rfl, rfl, rfl⟩
 | 5, _ + 4, _, h => absurd h (by show ¬ _ < 4; omega)
 | 6, 0, _, _ => ⟨rfl, rfl, rfl, rfl, rfl, rfl, rfl, rfl, rfl, rfl⟩
 | 6, 1, _, _ => ⟨rfl, rfl, rfl, rfl, rfl, rfl, rfl, rfl, rfl, rfl⟩
 | 6, _ + 2, _, h => absurd h (by show ¬ _ < 2; omega)
 | 7, 0, _, _ => ⟨rfl, rfl, rfl, rfl, rfl, rfl, rfl, rfl, rfl, rfl⟩
 | 7, 1, _, _ => ⟨rfl, rfl, rfl, rfl, rfl, rfl, rfl, rfl, rfl, rfl⟩
 | 7, _ + 2, _, h => absurd h (by show ¬ _ < 2; omega)
 | 8, 0, _, _ => ⟨rfl, rfl, rfl, rfl, rfl, rfl, rfl, rfl, rfl, rfl⟩
 | 8, 1, _, _ => ⟨rfl, rfl, rfl, rfl, rfl, rfl, rfl, rfl, rfl, rfl⟩
 | 8, 2, _, _ => ⟨rfl, rfl, rfl, rfl, rfl, rfl, rfl, rfl, rfl, rfl⟩
 | 8, 3, _, _ => ⟨rfl, rfl, rfl, rfl, rfl, rfl, rfl, rfl, rfl, rfl⟩
 | 8, 4, _, _ => ⟨rfl, rfl, rfl, rfl, rfl, rfl, rfl, rfl, rfl, rfl⟩
 | 8, 5, _, _ => ⟨rfl, rfl, rfl, rfl, rfl, rfl, rfl, rfl, rfl, rfl⟩
 | 8, 6, _, _ => ⟨rfl, rfl, rfl, rfl, rfl, rfl, rfl, rfl, rfl, rfl⟩
 | 8, 7, _, _ => ⟨rfl, rfl, rfl, rfl, rfl, rfl, rfl, rfl, rfl, rfl⟩
 | 8, _ + 8, _, h => absurd h (by show ¬ _ < 8; omega)
 | _ + 9, _, h, _ => absurd h (by omega)
structure Lb (n : Nat) (s : Su) : Prop where
 c0 : labs[n * 3]? = some (.string s.nm)
 c1 : labs[n * 3 + 1]? = some (.string s.sy)
 c2 : labs[n * 3 + 2]? = some (I s.tk)
theorem labs_at : ∀ n, n < 29 → Lb n (sut n)
 | 0, _ => ⟨rfl, rfl, rfl⟩
 | 1, _ => ⟨rfl, rfl, rfl⟩
 | 2, _ => ⟨rfl, rfl, rfl⟩
 | 3, _ => ⟨rfl, rfl, rfl⟩
 | 4, _ => ⟨rfl, rfl, rfl⟩
 | 5, _ => ⟨rfl, rfl, rfl⟩
 | 6, _ => ⟨rfl, rfl, rfl⟩
 | 7, _ => ⟨rfl, rfl, rfl⟩
 | 8, _ => ⟨rfl, rfl, rfl⟩
 | 9, _ => ⟨rfl, rfl, rfl⟩
 | 10, _ => ⟨rfl, rfl, rfl⟩
 | 11, _ => ⟨rfl, rfl, rfl⟩
 | 12, _ => ⟨rfl, rfl, rfl⟩
 | 13, _ => ⟨rfl, rfl, rfl⟩
 | 14, _ => ⟨rfl, rfl, rfl⟩
 | 15, _ => ⟨rfl, rfl, rfl⟩
 | 16, _ => ⟨rfl, rfl, rfl⟩
 | 17, _ => ⟨rfl, rfl, rfl⟩
 | 18, _ => ⟨rfl, rfl, rfl⟩
 | 19, _ => ⟨rfl, rfl, rfl⟩
 | 20, _ => ⟨rfl, rfl, rfl⟩
 | 21, _ => ⟨rfl, rfl, rfl⟩
 | 22, _ => ⟨rfl, rfl, rfl⟩
 | 23, _ => ⟨rfl, rfl, rfl⟩
 | 24, _ => ⟨rfl, rfl, rfl⟩
 | 25, _ => ⟨rfl, rfl, rfl⟩
 | 26, _ => ⟨rfl, rfl, rfl⟩
 | 27, _ => ⟨rfl, rfl, rfl⟩
 | 28, _ => ⟨rfl, rfl, rfl⟩
 | _ + 29, h => absurd h (by omega)
end Go.Proofs.YthcbhnggphdflaaGreatDoor

import Derived.Test.YtpimiboiogfhbaaM1
import Derived.Maps.AppendAt
namespace Go.Proofs.Ytpimiboiogfhbaa
open Go.ChangeShapes Go.WideShapes Go.ChangeAt Go.RowKit
/-- What the table of tens holds. -/
def tens (j : Nat) : Nat := 10 ^ (8 - j)
/-- Digit j of a limb, the highest first, as a byte. -/
def dg (x j : Nat) : Nat := 48 + x / tens j % 10
def digK (x k : Nat) : List Nat := (List.range k).map (dg x)
abbrev U8s (l : List Nat) : List Value := l.map (fun x => Value.int .u8 (x : Nat))
theorem U8s_snoc (a : List Nat) (b : Nat) : U8s (a ++ [b]) = U8s a ++ [Value.int .u8 (b : Nat)] := by simp [U8s]
theorem tens_step (k : Nat) (h : k < 9) : 10 ^ (9 - k) = 10 * tens k := by
  unfold tens
  rw [show 9 - k = 8 - k + 1 by omega, Nat.pow_succ, Nat.mul_comm]
theorem tens_pos (k : Nat) : 0 < tens k := Nat.pow_pos (by decide)
theorem tens_le (k : Nat) : tens k ≤ 100000000 := by
  unfold tens
  have : 10 ^ (8 - k) ≤ 10 ^ 8 := Nat.pow_le_pow_right (by decide) (by omega)
  have e : (10 : Nat) ^ 8 = 100000000 := by decide
  omega
theorem digK_succ (x k : Nat) : digK x (k + 1) = digK x k ++ [dg x k] := by simp [digK, List.range_succ]
theorem mod_div (x T : Nat) : x % (10 * T) / T = x / T % 10 := by rw [Nat.mul_comm]; exact Nat.mod_mul_right_div_self x T 10
theorem mod_mod (x T : Nat) : x % (10 * T) % T = x % T := Nat.mod_mod_of_dvd x (Nat.dvd_mul_left T 10)
theorem grownBy_tr {A B C : World} {r : Option Nat} (h1 : A.grownBy B r) (h2 : B.grownBy C r) : A.grownBy C r :=
  ⟨h2.os.trans h1.os, h2.tape.trans h1.tape, h2.output.trans h1.output, Nat.le_trans h1.size h2.size, fun k hk hne => (h2.block k (Nat.lt_of_lt_of_le hk h1.size) hne).trans (h1.block k hk hne)⟩
theorem Try.info_u8 : (Try.prog.info? 5).map (fun i => (i.zero, i.size, i.bytes)) = some (some (.int .u8 0), 1, 1) := by kernel_rfl
end Go.Proofs.Ytpimiboiogfhbaa

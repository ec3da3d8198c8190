import Derived.Test.YthhckkcbllcfcaaBoD
import Derived.Laws.Bits64
import Derived.Laws.Bits64b
namespace Go.Proofs.Ythhckkcbllcfcaa.fnExactBitsOp
open Go.ChangeShapes Go.WideShapes Go.ChangeAt Go.RowKit

theorem two64 : (2 : Nat) ^ 64 = 18446744073709551616 := by decide
theorem pow_le64 {n : Nat} (h : n ≤ 64) : 2 ^ n ≤ 18446744073709551616 := by
  rw [← two64]; exact Nat.pow_le_pow_right (by decide) h
theorem mk_nat (k : Int) : mk k = ((2 ^ k.toNat - 1 : Nat) : Int) := by
  have := Nat.one_le_two_pow (n := k.toNat)
  unfold mk
  rw [Int.ofNat_sub this]
  simp

theorem and_mk (k : Int) (hk' : k ≤ 64) (x : Nat) (hx : x < 18446744073709551616) : bits .and .u64 (x : Int) (mk k) = ((x % 2 ^ k.toNat : Nat) : Int) := by
  have h1 := pow_le64 (n := k.toNat) (by omega)
  have h0 := Nat.one_le_two_pow (n := k.toNat)
  rw [mk_nat, bits_and_u64_nat x _ hx (by omega), Nat.and_two_pow_sub_one_eq_mod]

theorem wrap_nat (x : Nat) : IntKind.u64.wrap (x : Int) = ((x % 18446744073709551616 : Nat) : Int) := by
  simp [IntKind.wrap, IntKind.bits, IntKind.signed]

/-- What is masked twice. -/
theorem mod_mod64 (x n : Nat) (h : n ≤ 64) : x % 18446744073709551616 % 2 ^ n = x % 2 ^ n := by
  apply Nat.mod_mod_of_dvd
  rw [← two64]; exact Nat.pow_dvd_pow 2 h

theorem xor_top_lt (x n : Nat) (h : x < 2 ^ n) : x ^^^ 2 ^ n = x + 2 ^ n := by
  apply Nat.eq_of_testBit_eq
  intro j
  have e : x + 2 ^ n = 2 ^ n * 1 + x := by omega
  rw [e, Nat.testBit_two_pow_mul_add 1 h, Nat.testBit_xor, Nat.testBit_two_pow]
  by_cases hj : j < n
  · have : ¬ n = j := by omega
    simp [hj, this]
  · have hx : x.testBit j = false := Nat.testBit_lt_two_pow (Nat.lt_of_lt_of_le h (Nat.pow_le_pow_right (by decide) (by omega)))
    rw [if_neg hj, hx]
    by_cases hn : n = j
    · subst hn; simp
    · have h1 : (Nat.testBit 1 (j - n)) = false := by
        cases hb : Nat.testBit 1 (j - n) with
        | false => rfl
        | true => have := Nat.testBit_one_eq_true_iff_self_eq_zero.1 hb; omega
      simp [hn, h1]
theorem xor_top_ge (x n : Nat) (h : x < 2 ^ (n + 1)) (h' : 2 ^ n ≤ x) : x ^^^ 2 ^ n = x - 2 ^ n := by
  have e := xor_top_lt (x - 2 ^ n) n (by rw [Nat.pow_succ] at h; omega)
  have e2 : x - 2 ^ n + 2 ^ n = x := by omega
  rw [e2] at e
  have : (x - 2 ^ n) ^^^ 2 ^ n ^^^ 2 ^ n = x ^^^ 2 ^ n := by rw [e]
  rw [Nat.xor_assoc, Nat.xor_self, Nat.xor_zero] at this
  exact this.symm

/-- The number that a word is in two's complement. -/
def sg (x N : Nat) : Int := if 2 ^ (N - 1) ≤ x then (x : Int) - 2 ^ N else x

theorem sg_ok (k : Int) (hk : 1 ≤ k) (hk' : k ≤ 64) (x : Nat) (hx : x < 2 ^ k.toNat) :
    wrap64 (IntKind.u64.wrap ((x : Int) * 2 ^ (64 - k).toNat)) / 2 ^ (64 - k).toNat = sg x k.toNat := by
  obtain ⟨N, rfl⟩ : ∃ N : Nat, k = N := ⟨k.toNat, by omega⟩
  have e1 : (64 - (N : Int)).toNat = 64 - N := by omega
  have e2 : ((N : Int)).toNat = N := by omega
  rw [e2] at hx
  rw [e1, e2]
  clear e1 e2
  obtain ⟨M, hM⟩ : ∃ M, 64 - N = M := ⟨_, rfl⟩
  obtain ⟨q, hq⟩ : ∃ q, N = q + 1 := ⟨N - 1, by omega⟩
  subst hq
  rw [hM]
  have hp : 2 ^ q * 2 ^ M = 9223372036854775808 := by
    rw [← Nat.pow_add, show q + M = 63 by omega]
  have hP : 0 < 2 ^ M := Nat.two_pow_pos M
  have hx2 : x < 2 * 2 ^ q := by rw [Nat.pow_succ] at hx; omega
  generalize hPP : 2 ^ M = P at *
  have hI : ((2 : Int) ^ M) = (P : Int) := by rw [← hPP]; simp
  rw [hI]
  have hc : (x : Int) * (P : Int) = ((x * P : Nat) : Int) := by simp
  have hlt : x * P < 18446744073709551616 := by
    have h1 : x * P < (2 * 2 ^ q) * P := Nat.mul_lt_mul_of_pos_right hx2 hP
    have h2 : (2 * 2 ^ q) * P = 2 * (2 ^ q * P) := Nat.mul_assoc _ _ _
    omega
  rw [hc, wrap_nat, Nat.mod_eq_of_lt hlt]
  unfold sg
  rw [show q + 1 - 1 = q by omega]
  by_cases hs : 2 ^ q ≤ x
  · have hge : 9223372036854775808 ≤ x * P := by rw [← hp]; exact Nat.mul_le_mul_right _ hs
    rw [if_pos hs]
    have e3 : wrap64 ((x * P : Nat) : Int) = ((x : Int) - 2 ^ (q + 1)) * (P : Int) := by
      have h4 : ((2 : Int) ^ (q + 1)) * (P : Int) = 18446744073709551616 := by
        have : (((2 ^ (q + 1)) * P : Nat) : Int) = 18446744073709551616 := by
          rw [Nat.pow_succ, Nat.mul_comm (2 ^ q) 2, Nat.mul_assoc, hp]; rfl
        simpa using this
      rw [Int.sub_mul, h4, hc]
      unfold wrap64
      omega
    rw [e3, Int.mul_ediv_cancel _ (by omega)]
  · have hlt2 : x * P < 9223372036854775808 := by rw [← hp]; exact Nat.mul_lt_mul_of_pos_right (by omega) hP
    rw [if_neg hs]
    have e3 : wrap64 ((x * P : Nat) : Int) = (x : Int) * (P : Int) := by
      rw [hc]
      unfold wrap64
      omega
    rw [e3, Int.mul_ediv_cancel _ (by omega)]

theorem top_wrap (N : Nat) (h : 1 ≤ N) (h' : N ≤ 64) : IntKind.u64.wrap (2 ^ (N - 1)) = ((2 ^ (N - 1) : Nat) : Int) := by
  have h1 : 2 ^ (N - 1) < 18446744073709551616 := by
    rw [← two64]; exact Nat.pow_lt_pow_right (by decide) (by omega)
  have : ((2 : Int) ^ (N - 1)) = ((2 ^ (N - 1) : Nat) : Int) := by simp
  rw [this, wrap_nat, Nat.mod_eq_of_lt h1]

/-- A word with its top bit turned is the number that it is in two's complement, moved up. -/
theorem xor_sg (N : Nat) (h : 1 ≤ N) (h' : N ≤ 64) (x : Nat) (hx : x < 2 ^ N) :
    bits .xor .u64 (x : Int) (IntKind.u64.wrap (2 ^ (N - 1))) = sg x N + 2 ^ (N - 1) := by
  have h1 : 2 ^ (N - 1) < 18446744073709551616 := by
    rw [← two64]; exact Nat.pow_lt_pow_right (by decide) (by omega)
  have h2 := pow_le64 h'
  obtain ⟨q, hq⟩ : ∃ q, N = q + 1 := ⟨N - 1, by omega⟩
  subst hq
  rw [top_wrap _ h h', bits_xor_u64_nat _ _ (by omega) h1]
  unfold sg
  rw [show q + 1 - 1 = q by omega]
  have hI : ((2 : Int) ^ q) = ((2 ^ q : Nat) : Int) := by simp
  have hI2 : ((2 : Int) ^ (q + 1)) = ((2 ^ q : Nat) : Int) * 2 := by rw [Int.pow_succ, hI]
  by_cases hs : 2 ^ q ≤ x
  · rw [xor_top_ge x q hx hs, if_pos hs, hI, hI2]; omega
  · rw [xor_top_lt x q (by omega), if_neg hs, hI]; omega
end Go.Proofs.Ythhckkcbllcfcaa.fnExactBitsOp

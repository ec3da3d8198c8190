import Derived.Test.YthhckkcbllcfcaaBoE
namespace Go.Proofs.Ythhckkcbllcfcaa.fnExactBitsOp
open Go.ChangeShapes Go.WideShapes Go.ChangeAt Go.RowKit

theorem sarI_nat (x b N : Nat) (hN : N ≤ 64) (hx : x < 18446744073709551616) : ∀ i : Nat, i ≤ N →
    ∃ r : Nat, sarI x b N i = (r : Int) ∧ r < 18446744073709551616 ∧ ∀ j, r.testBit j = (decide (j < i) && x.testBit (fr b N j)) := by
  intro i
  induction i with
  | zero => intro _; exact ⟨0, rfl, by decide, fun j => by simp⟩
  | succ i ih =>
    intro hi
    obtain ⟨r, hr, hr1, hrb⟩ := ih (by omega)
    obtain ⟨f, hf⟩ : ∃ f, fr b N i = f := ⟨_, rfl⟩
    have e1 : (x : Int) / 2 ^ f = ((x / 2 ^ f : Nat) : Int) := by simp
    have hlt : x / 2 ^ f < 18446744073709551616 := Nat.lt_of_le_of_lt (Nat.div_le_self _ _) hx
    have e2 : bits .and .u64 ((x / 2 ^ f : Nat) : Int) 1 = ((x / 2 ^ f &&& 1 : Nat) : Int) := bits_and_u64_nat _ 1 hlt (by decide)
    obtain ⟨c, hc⟩ : ∃ c, x / 2 ^ f &&& 1 = c := ⟨_, rfl⟩
    have hc1 : c < 2 := by rw [← hc, Nat.and_one_is_mod]; exact Nat.mod_lt _ (by decide)
    have hcb : ∀ j, c.testBit j = (decide (j = 0) && x.testBit f) := by
      intro j
      rw [← hc, Nat.testBit_and, Nat.testBit_div_two_pow]
      by_cases hj : j = 0
      · subst hj; simp
      · have h1 : (Nat.testBit 1 j) = false := by
          cases hb : Nat.testBit 1 j with
          | false => rfl
          | true => exact absurd (Nat.testBit_one_eq_true_iff_self_eq_zero.1 hb) hj
        simp [hj, h1]
    have hp : 2 ^ i < 18446744073709551616 := by rw [← two64]; exact Nat.pow_lt_pow_right (by decide) (by omega)
    have hcp : c * 2 ^ i < 18446744073709551616 := by
      have : c * 2 ^ i ≤ 1 * 2 ^ i := Nat.mul_le_mul_right _ (by omega)
      omega
    have e3 : ((c : Nat) : Int) * 2 ^ i = ((c * 2 ^ i : Nat) : Int) := by simp
    have e4 : sarI x b N (i + 1) = ((r ||| c * 2 ^ i : Nat) : Int) := by
      rw [sarI, hr, hf, e1, e2, hc, e3, wrap_nat, Nat.mod_eq_of_lt hcp, bits_or_u64_nat _ _ hr1 hcp]
    refine ⟨_, e4, ?_, ?_⟩
    · rw [← two64]; exact Nat.or_lt_two_pow (by rw [two64]; exact hr1) (by rw [two64]; exact hcp)
    · intro j
      rw [Nat.testBit_or, hrb, Nat.testBit_mul_two_pow, hcb]
      by_cases hj : j = i
      · subst hj; simp [hf]
      · by_cases hj2 : j < i
        · have h1 : ¬ i ≤ j := by omega
          have h2 : j < i + 1 := by omega
          simp [h1, h2, hj2]
        · have h1 : ¬ j - i = 0 := by omega
          have h2 : ¬ j < i + 1 := by omega
          simp [h1, h2, hj2]

theorem and_wrap (k : Int) (hk' : k ≤ 64) (z : Int) (y : Nat) (h : z % 2 ^ k.toNat = (y : Int) % 2 ^ k.toNat) :
    bits .and .u64 (IntKind.u64.wrap z) (mk k) = ((y % 2 ^ k.toNat : Nat) : Int) := by
  have e0 : IntKind.u64.wrap z = z % 18446744073709551616 := by simp [IntKind.wrap, IntKind.bits, IntKind.signed]
  have h0 : 0 ≤ z % 18446744073709551616 := Int.emod_nonneg _ (by decide)
  have h1 : z % 18446744073709551616 < 18446744073709551616 := Int.emod_lt_of_pos _ (by decide)
  obtain ⟨u, hu⟩ : ∃ u : Nat, z % 18446744073709551616 = (u : Int) := ⟨(z % 18446744073709551616).toNat, by omega⟩
  rw [e0, hu, and_mk k hk' u (by omega)]
  have h2 : z % 18446744073709551616 % 2 ^ k.toNat = z % 2 ^ k.toNat := by
    apply Int.emod_emod_of_dvd
    have h5 : ((2 ^ k.toNat : Nat) : Int) ∣ ((18446744073709551616 : Nat) : Int) := by
      rw [← two64]; exact Int.natCast_dvd_natCast.2 (Nat.pow_dvd_pow 2 (by omega))
    simpa using h5
  rw [hu, h] at h2
  have h3 : (u : Int) % 2 ^ k.toNat = ((u % 2 ^ k.toNat : Nat) : Int) := by simp
  have h4 : (y : Int) % 2 ^ k.toNat = ((y % 2 ^ k.toNat : Nat) : Int) := by simp
  rw [h3, h4] at h2
  exact h2

theorem top_bit (x N : Nat) (h : 1 ≤ N) (hx : x < 2 ^ N) : x.testBit (N - 1) = decide (2 ^ (N - 1) ≤ x) := by
  obtain ⟨q, hq⟩ : ∃ q, N = q + 1 := ⟨N - 1, by omega⟩
  subst hq
  rw [show q + 1 - 1 = q by omega, Nat.testBit_eq_decide_div_mod_eq]
  rw [Nat.pow_succ] at hx
  by_cases hs : 2 ^ q ≤ x
  · have : x / 2 ^ q = 1 := Nat.div_eq_of_lt_le (by omega) (by omega)
    simp [this, hs]
  · have : x / 2 ^ q = 0 := Nat.div_eq_of_lt (by omega)
    simp [this, hs]

/-- The shift that keeps the sign, both ways. -/
theorem sar_same (k : Int) (hk : 1 ≤ k) (hk' : k ≤ 64) (x b : Nat) (hx : x < 2 ^ k.toNat) :
    bits .and .u64 (IntKind.u64.wrap (sg x k.toNat / 2 ^ min b 64)) (mk k) = bits .and .u64 (sarI x b k.toNat k.toNat) (mk k) := by
  obtain ⟨N, hN⟩ : ∃ N : Nat, k.toNat = N := ⟨_, rfl⟩
  have hN1 : 1 ≤ N := by omega
  have hN2 : N ≤ 64 := by omega
  have h2 := pow_le64 hN2
  rw [hN] at hx
  obtain ⟨r, hr, hr1, hrb⟩ := sarI_nat x b N hN2 (by omega) N (Nat.le_refl _)
  obtain ⟨j, hj⟩ : ∃ j, min b 64 = j := ⟨_, rfl⟩
  rw [hN, hr, and_mk k hk' r hr1, hj, hN]
  have hsb := top_bit x N hN1 hx
  have hpj : 0 < 2 ^ j := Nat.two_pow_pos j
  have hpN : 0 < 2 ^ N := Nat.two_pow_pos N
  have hIj : ((2 : Int) ^ j) = ((2 ^ j : Nat) : Int) := by simp
  have hIN : ((2 : Int) ^ N) = ((2 ^ N : Nat) : Int) := by simp
  have key : ∃ y : Nat, (sg x N / 2 ^ j) % 2 ^ N = (y : Int) % 2 ^ N ∧ ∀ i, i < N → y.testBit i = x.testBit (fr b N i) := by
    unfold sg
    by_cases hs : 2 ^ (N - 1) ≤ x
    · rw [if_pos hs]
      refine ⟨(2 ^ N * (2 ^ j - 1) + x) / 2 ^ j, ?_, ?_⟩
      · have e : ((2 ^ N * (2 ^ j - 1) + x : Nat) : Int) = ((x : Int) - 2 ^ N) + 2 ^ N * 2 ^ j := by
          obtain ⟨p, hp⟩ : ∃ p, 2 ^ j = p + 1 := ⟨2 ^ j - 1, by omega⟩
          rw [hIj, hp, show p + 1 - 1 = p by omega, hIN]
          push_cast
          rw [Int.mul_add, Int.mul_one]
          omega
        have e2 : (((2 ^ N * (2 ^ j - 1) + x) / 2 ^ j : Nat) : Int) = ((x : Int) - 2 ^ N) / 2 ^ j + 2 ^ N := by
          rw [Int.natCast_ediv, e, ← hIj, Int.add_mul_ediv_right _ _ (by rw [hIj]; omega)]
        rw [e2, Int.add_emod_right]
      · intro i hi
        rw [Nat.testBit_div_two_pow, Nat.testBit_two_pow_mul_add _ hx]
        unfold fr
        by_cases hc : (i : Int) + (b : Int) < (N : Int)
        · have : j = b := by omega
          subst this
          rw [if_pos hc, if_pos (by omega), show ((i : Int) + (j : Int)).toNat = i + j by omega]
        · rw [if_neg hc, if_neg (by omega), Nat.testBit_two_pow_sub_one, hsb, decide_eq_true hs, decide_eq_true (by omega)]
    · rw [if_neg hs]
      refine ⟨x / 2 ^ j, by rw [Int.natCast_ediv, ← hIj], ?_⟩
      intro i hi
      rw [Nat.testBit_div_two_pow]
      unfold fr
      by_cases hc : (i : Int) + (b : Int) < (N : Int)
      · have : j = b := by omega
        subst this
        rw [if_pos hc, show ((i : Int) + (j : Int)).toNat = i + j by omega]
      · rw [if_neg hc, hsb, decide_eq_false hs]
        exact Nat.testBit_lt_two_pow (Nat.lt_of_lt_of_le hx (Nat.pow_le_pow_right (by decide) (by omega)))
  obtain ⟨y, hy, hyb⟩ := key
  rw [and_wrap k hk' _ y (by rw [hN]; exact hy), hN]
  congr 1
  apply Nat.eq_of_testBit_eq
  intro i
  rw [Nat.testBit_mod_two_pow, Nat.testBit_mod_two_pow]
  by_cases hi : i < N
  · rw [hyb i hi, hrb i, decide_eq_true hi]; rfl
  · rw [decide_eq_false hi]; rfl
end Go.Proofs.Ythhckkcbllcfcaa.fnExactBitsOp

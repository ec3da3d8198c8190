import Derived.Test.YthhckkcbllcfcaaBoB
namespace Go.Proofs.Ythhckkcbllcfcaa.fnExactBitsOp
open Go.ChangeShapes Go.WideShapes Go.ChangeAt Go.RowKit
set_option maxRecDepth 20000

/-- A fact that the walk does not look at. -/
def Hid (p : Prop) : Prop := p
theorem Hid.out {p : Prop} (h : Hid p) : p := h

/-- The place that the bit i is taken from. -/
def fr (B : Int) (N i : Nat) : Nat := if (i : Int) + B < N then (i + B).toNat else N - 1

/-- What the specification gathers in i rounds. -/
def sarI (A B : Int) (N : Nat) : Nat → Int
  | 0 => 0
  | i + 1 => bits .or .u64 (sarI A B N i) (IntKind.u64.wrap (bits .and .u64 (A / 2 ^ fr B N i) 1 * 2 ^ i))

set_option maxHeartbeats 1000000 in
theorem s_sar (k a b A B : Int) (hk : 1 ≤ k) (hk' : k ≤ 64) (hA : bits .and .u64 a (mk k) = A) (hB : bits .and .u64 b (mk k) = B) (_hA0 : 0 ≤ A) (hB0 : 0 ≤ B) (_hA1 : A < 18446744073709551616) (hB1 : B < 18446744073709551616) (w : World) :
    Calls Try.prog 4 #[.int .i64 37, .int .i64 k, .int .u64 a, .int .u64 b] w fun e w' => e = .returned (.int .u64 (bits .and .u64 (sarI A B k.toNat k.toNat) (mk k))) ∧ w' = w := by
  go_enter Try.func4, Try.ntmps4
  go_wp2_with (first
    | (go_at_call 6; refine (l6Mask_ok k hk hk' _).mono ?_; rintro e w1 ⟨rfl, rfl⟩))
  go_loop [11, 12] (fun rv iv => ∃ i : Nat, i ≤ k.toNat ∧ iv = .int .i64 (i : Nat) ∧ rv = .int .u64 (sarI A B k.toNat i)) (fun _ iv => k.toNat - (intOf iv).toNat)
  case atStart => exact ⟨0, Nat.zero_le _, rfl, rfl⟩
  case round =>
    obtain ⟨i, hi, rfl, rfl⟩ := hrel
    obtain ⟨r, hr⟩ : ∃ r, sarI A B k.toNat i = r := ⟨_, rfl⟩
    have HR : Hid (sarI A B k.toNat i = r) := hr
    rw [hr]
    clear hr
    by_cases hl : (i : Int) < k
    · by_cases hc : (i : Int) + B < k
      · have HF : Hid (fr B k.toNat i = ((i : Int) + B).toNat) := if_pos (by omega)
        go_wp2
        all_goals
          refine ⟨⟨i + 1, by omega, rfl, ?_⟩, ?_⟩
          · rw [sarI, HR.out, HF.out]
          · show k.toNat - ((i : Int) + 1).toNat < k.toNat - (i : Int).toNat
            omega
      · have HF : Hid (fr B k.toNat i = k.toNat - 1) := if_neg (by omega)
        by_cases hc2 : (i : Int) + B < 18446744073709551616
        · go_wp2
          all_goals
            refine ⟨⟨i + 1, by omega, rfl, ?_⟩, ?_⟩
            · rw [sarI, HR.out, HF.out]
            · show k.toNat - ((i : Int) + 1).toNat < k.toNat - (i : Int).toNat
              omega
        · go_wp2
          all_goals
            refine ⟨⟨i + 1, by omega, rfl, ?_⟩, ?_⟩
            · rw [sarI, HR.out, HF.out]
            · show k.toNat - ((i : Int) + 1).toNat < k.toNat - (i : Int).toNat
              omega
    · have HI : Hid (i = k.toNat) := by show i = k.toNat; omega
      go_wp2
      go_ret
      refine ⟨?_, rfl⟩
      have := HR.out
      rw [HI.out] at this
      rw [this]
      rfl
end Go.Proofs.Ythhckkcbllcfcaa.fnExactBitsOp

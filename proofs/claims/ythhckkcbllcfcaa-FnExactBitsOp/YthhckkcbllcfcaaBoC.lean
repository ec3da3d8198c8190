import Derived.Test.YthhckkcbllcfcaaBoB
namespace Go.Proofs.Ythhckkcbllcfcaa.fnExactBitsOp
open Go.ChangeShapes Go.WideShapes Go.ChangeAt Go.RowKit
set_option maxRecDepth 20000

theorem s_eq1 (k a b : Int) (hk : 1 ≤ k) (hk' : k ≤ 64) (h : (bits .and .u64 a (mk k)) = (bits .and .u64 b (mk k))) (w : World) : Calls Try.prog 4 #[.int .i64 9, .int .i64 k, .int .u64 a, .int .u64 b] w fun e w' => e = .returned (.int .u64 (1)) ∧ w' = w := by
  go_enter Try.func4, Try.ntmps4
  go_wp2_with (first
    | (go_at_call 6; refine (l6Mask_ok k hk hk' _).mono ?_; rintro e w1 ⟨rfl, rfl⟩)
    | go_in)
  all_goals go_ret
  all_goals exact ⟨rfl, rfl⟩

theorem s_eq0 (k a b : Int) (hk : 1 ≤ k) (hk' : k ≤ 64) (h : (bits .and .u64 a (mk k)) ≠ (bits .and .u64 b (mk k))) (w : World) : Calls Try.prog 4 #[.int .i64 9, .int .i64 k, .int .u64 a, .int .u64 b] w fun e w' => e = .returned (.int .u64 (0)) ∧ w' = w := by
  go_enter Try.func4, Try.ntmps4
  go_wp2_with (first
    | (go_at_call 6; refine (l6Mask_ok k hk hk' _).mono ?_; rintro e w1 ⟨rfl, rfl⟩)
    | go_in)
  all_goals go_ret
  all_goals exact ⟨rfl, rfl⟩

theorem s_not (k a b : Int) (hk : 1 ≤ k) (hk' : k ≤ 64)  (w : World) : Calls Try.prog 4 #[.int .i64 25, .int .i64 k, .int .u64 a, .int .u64 b] w fun e w' => e = .returned (.int .u64 (bits .and .u64 (bits .xor .u64 IntKind.u64.max (bits .and .u64 a (mk k))) (mk k))) ∧ w' = w := by
  go_enter Try.func4, Try.ntmps4
  go_wp2_with (first
    | (go_at_call 6; refine (l6Mask_ok k hk hk' _).mono ?_; rintro e w1 ⟨rfl, rfl⟩)
    | go_in)
  all_goals go_ret
  all_goals exact ⟨rfl, rfl⟩

theorem s_neg (k a b : Int) (hk : 1 ≤ k) (hk' : k ≤ 64)  (w : World) : Calls Try.prog 4 #[.int .i64 26, .int .i64 k, .int .u64 a, .int .u64 b] w fun e w' => e = .returned (.int .u64 (bits .and .u64 (IntKind.u64.wrap (-(bits .and .u64 a (mk k)))) (mk k))) ∧ w' = w := by
  go_enter Try.func4, Try.ntmps4
  go_wp2_with (first
    | (go_at_call 6; refine (l6Mask_ok k hk hk' _).mono ?_; rintro e w1 ⟨rfl, rfl⟩)
    | go_in)
  all_goals go_ret
  all_goals exact ⟨rfl, rfl⟩

theorem s_and (k a b : Int) (hk : 1 ≤ k) (hk' : k ≤ 64)  (w : World) : Calls Try.prog 4 #[.int .i64 27, .int .i64 k, .int .u64 a, .int .u64 b] w fun e w' => e = .returned (.int .u64 (bits .and .u64 (bits .and .u64 (bits .and .u64 a (mk k)) (bits .and .u64 b (mk k))) (mk k))) ∧ w' = w := by
  go_enter Try.func4, Try.ntmps4
  go_wp2_with (first
    | (go_at_call 6; refine (l6Mask_ok k hk hk' _).mono ?_; rintro e w1 ⟨rfl, rfl⟩)
    | go_in)
  all_goals go_ret
  all_goals exact ⟨rfl, rfl⟩

theorem s_or (k a b : Int) (hk : 1 ≤ k) (hk' : k ≤ 64)  (w : World) : Calls Try.prog 4 #[.int .i64 28, .int .i64 k, .int .u64 a, .int .u64 b] w fun e w' => e = .returned (.int .u64 (bits .and .u64 (bits .or .u64 (bits .and .u64 a (mk k)) (bits .and .u64 b (mk k))) (mk k))) ∧ w' = w := by
  go_enter Try.func4, Try.ntmps4
  go_wp2_with (first
    | (go_at_call 6; refine (l6Mask_ok k hk hk' _).mono ?_; rintro e w1 ⟨rfl, rfl⟩)
    | go_in)
  all_goals go_ret
  all_goals exact ⟨rfl, rfl⟩

theorem s_xor (k a b : Int) (hk : 1 ≤ k) (hk' : k ≤ 64)  (w : World) : Calls Try.prog 4 #[.int .i64 29, .int .i64 k, .int .u64 a, .int .u64 b] w fun e w' => e = .returned (.int .u64 (bits .and .u64 (bits .xor .u64 (bits .and .u64 a (mk k)) (bits .and .u64 b (mk k))) (mk k))) ∧ w' = w := by
  go_enter Try.func4, Try.ntmps4
  go_wp2_with (first
    | (go_at_call 6; refine (l6Mask_ok k hk hk' _).mono ?_; rintro e w1 ⟨rfl, rfl⟩)
    | go_in)
  all_goals go_ret
  all_goals exact ⟨rfl, rfl⟩

theorem s_add (k a b : Int) (hk : 1 ≤ k) (hk' : k ≤ 64)  (w : World) : Calls Try.prog 4 #[.int .i64 30, .int .i64 k, .int .u64 a, .int .u64 b] w fun e w' => e = .returned (.int .u64 (bits .and .u64 (IntKind.u64.wrap ((bits .and .u64 a (mk k)) + (bits .and .u64 b (mk k)))) (mk k))) ∧ w' = w := by
  go_enter Try.func4, Try.ntmps4
  go_wp2_with (first
    | (go_at_call 6; refine (l6Mask_ok k hk hk' _).mono ?_; rintro e w1 ⟨rfl, rfl⟩)
    | go_in)
  all_goals go_ret
  all_goals exact ⟨rfl, rfl⟩

theorem s_sub (k a b : Int) (hk : 1 ≤ k) (hk' : k ≤ 64)  (w : World) : Calls Try.prog 4 #[.int .i64 31, .int .i64 k, .int .u64 a, .int .u64 b] w fun e w' => e = .returned (.int .u64 (bits .and .u64 (IntKind.u64.wrap ((bits .and .u64 a (mk k)) - (bits .and .u64 b (mk k)))) (mk k))) ∧ w' = w := by
  go_enter Try.func4, Try.ntmps4
  go_wp2_with (first
    | (go_at_call 6; refine (l6Mask_ok k hk hk' _).mono ?_; rintro e w1 ⟨rfl, rfl⟩)
    | go_in)
  all_goals go_ret
  all_goals exact ⟨rfl, rfl⟩

theorem s_mul (k a b : Int) (hk : 1 ≤ k) (hk' : k ≤ 64)  (w : World) : Calls Try.prog 4 #[.int .i64 32, .int .i64 k, .int .u64 a, .int .u64 b] w fun e w' => e = .returned (.int .u64 (bits .and .u64 (IntKind.u64.wrap ((bits .and .u64 a (mk k)) * (bits .and .u64 b (mk k)))) (mk k))) ∧ w' = w := by
  go_enter Try.func4, Try.ntmps4
  go_wp2_with (first
    | (go_at_call 6; refine (l6Mask_ok k hk hk' _).mono ?_; rintro e w1 ⟨rfl, rfl⟩)
    | go_in)
  all_goals go_ret
  all_goals exact ⟨rfl, rfl⟩

theorem s_div0 (k a b : Int) (hk : 1 ≤ k) (hk' : k ≤ 64) (h : (bits .and .u64 b (mk k)) = 0) (w : World) : Calls Try.prog 4 #[.int .i64 33, .int .i64 k, .int .u64 a, .int .u64 b] w fun e w' => e = .returned (.int .u64 (bits .and .u64 (mk k) (mk k))) ∧ w' = w := by
  go_enter Try.func4, Try.ntmps4
  go_wp2_with (first
    | (go_at_call 6; refine (l6Mask_ok k hk hk' _).mono ?_; rintro e w1 ⟨rfl, rfl⟩)
    | go_in)
  all_goals go_ret
  all_goals exact ⟨rfl, rfl⟩

theorem s_div (k a b : Int) (hk : 1 ≤ k) (hk' : k ≤ 64) (h : (bits .and .u64 b (mk k)) ≠ 0) (w : World) : Calls Try.prog 4 #[.int .i64 33, .int .i64 k, .int .u64 a, .int .u64 b] w fun e w' => e = .returned (.int .u64 (bits .and .u64 (IntKind.u64.wrap ((bits .and .u64 a (mk k)).tdiv (bits .and .u64 b (mk k)))) (mk k))) ∧ w' = w := by
  go_enter Try.func4, Try.ntmps4
  go_wp2_with (first
    | (go_at_call 6; refine (l6Mask_ok k hk hk' _).mono ?_; rintro e w1 ⟨rfl, rfl⟩)
    | go_in)
  all_goals go_ret
  all_goals exact ⟨rfl, rfl⟩

theorem s_rem0 (k a b : Int) (hk : 1 ≤ k) (hk' : k ≤ 64) (h : (bits .and .u64 b (mk k)) = 0) (w : World) : Calls Try.prog 4 #[.int .i64 34, .int .i64 k, .int .u64 a, .int .u64 b] w fun e w' => e = .returned (.int .u64 (bits .and .u64 ((bits .and .u64 a (mk k))) (mk k))) ∧ w' = w := by
  go_enter Try.func4, Try.ntmps4
  go_wp2_with (first
    | (go_at_call 6; refine (l6Mask_ok k hk hk' _).mono ?_; rintro e w1 ⟨rfl, rfl⟩)
    | go_in)
  all_goals go_ret
  all_goals exact ⟨rfl, rfl⟩

theorem s_rem (k a b : Int) (hk : 1 ≤ k) (hk' : k ≤ 64) (h : (bits .and .u64 b (mk k)) ≠ 0) (w : World) : Calls Try.prog 4 #[.int .i64 34, .int .i64 k, .int .u64 a, .int .u64 b] w fun e w' => e = .returned (.int .u64 (bits .and .u64 ((bits .and .u64 a (mk k)).tmod (bits .and .u64 b (mk k))) (mk k))) ∧ w' = w := by
  go_enter Try.func4, Try.ntmps4
  go_wp2_with (first
    | (go_at_call 6; refine (l6Mask_ok k hk hk' _).mono ?_; rintro e w1 ⟨rfl, rfl⟩)
    | go_in)
  all_goals go_ret
  all_goals exact ⟨rfl, rfl⟩

theorem s_shl (k a b : Int) (hk : 1 ≤ k) (hk' : k ≤ 64) (h : (bits .and .u64 b (mk k)) < k) (h0 : 0 ≤ (bits .and .u64 b (mk k))) (w : World) : Calls Try.prog 4 #[.int .i64 35, .int .i64 k, .int .u64 a, .int .u64 b] w fun e w' => e = .returned (.int .u64 (bits .and .u64 (IntKind.u64.wrap ((bits .and .u64 a (mk k)) * 2 ^ (bits .and .u64 b (mk k)).toNat)) (mk k))) ∧ w' = w := by
  go_enter Try.func4, Try.ntmps4
  go_wp2_with (first
    | (go_at_call 6; refine (l6Mask_ok k hk hk' _).mono ?_; rintro e w1 ⟨rfl, rfl⟩)
    | go_in)
  all_goals go_ret
  all_goals exact ⟨rfl, rfl⟩

theorem s_shl0 (k a b : Int) (hk : 1 ≤ k) (hk' : k ≤ 64) (h : ¬ (bits .and .u64 b (mk k)) < k) (w : World) : Calls Try.prog 4 #[.int .i64 35, .int .i64 k, .int .u64 a, .int .u64 b] w fun e w' => e = .returned (.int .u64 (bits .and .u64 (0) (mk k))) ∧ w' = w := by
  go_enter Try.func4, Try.ntmps4
  go_wp2_with (first
    | (go_at_call 6; refine (l6Mask_ok k hk hk' _).mono ?_; rintro e w1 ⟨rfl, rfl⟩)
    | go_in)
  all_goals go_ret
  all_goals exact ⟨rfl, rfl⟩

theorem s_shr (k a b : Int) (hk : 1 ≤ k) (hk' : k ≤ 64) (h : (bits .and .u64 b (mk k)) < k) (h0 : 0 ≤ (bits .and .u64 b (mk k))) (w : World) : Calls Try.prog 4 #[.int .i64 36, .int .i64 k, .int .u64 a, .int .u64 b] w fun e w' => e = .returned (.int .u64 (bits .and .u64 ((bits .and .u64 a (mk k)) / 2 ^ (bits .and .u64 b (mk k)).toNat) (mk k))) ∧ w' = w := by
  go_enter Try.func4, Try.ntmps4
  go_wp2_with (first
    | (go_at_call 6; refine (l6Mask_ok k hk hk' _).mono ?_; rintro e w1 ⟨rfl, rfl⟩)
    | go_in)
  all_goals go_ret
  all_goals exact ⟨rfl, rfl⟩

theorem s_shr0 (k a b : Int) (hk : 1 ≤ k) (hk' : k ≤ 64) (h : ¬ (bits .and .u64 b (mk k)) < k) (w : World) : Calls Try.prog 4 #[.int .i64 36, .int .i64 k, .int .u64 a, .int .u64 b] w fun e w' => e = .returned (.int .u64 (bits .and .u64 (0) (mk k))) ∧ w' = w := by
  go_enter Try.func4, Try.ntmps4
  go_wp2_with (first
    | (go_at_call 6; refine (l6Mask_ok k hk hk' _).mono ?_; rintro e w1 ⟨rfl, rfl⟩)
    | go_in)
  all_goals go_ret
  all_goals exact ⟨rfl, rfl⟩

theorem s_ult1 (k a b : Int) (hk : 1 ≤ k) (hk' : k ≤ 64) (h : (bits .and .u64 a (mk k)) < (bits .and .u64 b (mk k))) (w : World) : Calls Try.prog 4 #[.int .i64 38, .int .i64 k, .int .u64 a, .int .u64 b] w fun e w' => e = .returned (.int .u64 (1)) ∧ w' = w := by
  go_enter Try.func4, Try.ntmps4
  go_wp2_with (first
    | (go_at_call 6; refine (l6Mask_ok k hk hk' _).mono ?_; rintro e w1 ⟨rfl, rfl⟩)
    | go_in)
  all_goals go_ret
  all_goals exact ⟨rfl, rfl⟩

theorem s_ult0 (k a b : Int) (hk : 1 ≤ k) (hk' : k ≤ 64) (h : ¬ (bits .and .u64 a (mk k)) < (bits .and .u64 b (mk k))) (w : World) : Calls Try.prog 4 #[.int .i64 38, .int .i64 k, .int .u64 a, .int .u64 b] w fun e w' => e = .returned (.int .u64 (0)) ∧ w' = w := by
  go_enter Try.func4, Try.ntmps4
  go_wp2_with (first
    | (go_at_call 6; refine (l6Mask_ok k hk hk' _).mono ?_; rintro e w1 ⟨rfl, rfl⟩)
    | go_in)
  all_goals go_ret
  all_goals exact ⟨rfl, rfl⟩

theorem s_ule1 (k a b : Int) (hk : 1 ≤ k) (hk' : k ≤ 64) (h : (bits .and .u64 a (mk k)) ≤ (bits .and .u64 b (mk k))) (w : World) : Calls Try.prog 4 #[.int .i64 39, .int .i64 k, .int .u64 a, .int .u64 b] w fun e w' => e = .returned (.int .u64 (1)) ∧ w' = w := by
  go_enter Try.func4, Try.ntmps4
  go_wp2_with (first
    | (go_at_call 6; refine (l6Mask_ok k hk hk' _).mono ?_; rintro e w1 ⟨rfl, rfl⟩)
    | go_in)
  all_goals go_ret
  all_goals exact ⟨rfl, rfl⟩

theorem s_ule0 (k a b : Int) (hk : 1 ≤ k) (hk' : k ≤ 64) (h : ¬ (bits .and .u64 a (mk k)) ≤ (bits .and .u64 b (mk k))) (w : World) : Calls Try.prog 4 #[.int .i64 39, .int .i64 k, .int .u64 a, .int .u64 b] w fun e w' => e = .returned (.int .u64 (0)) ∧ w' = w := by
  go_enter Try.func4, Try.ntmps4
  go_wp2_with (first
    | (go_at_call 6; refine (l6Mask_ok k hk hk' _).mono ?_; rintro e w1 ⟨rfl, rfl⟩)
    | go_in)
  all_goals go_ret
  all_goals exact ⟨rfl, rfl⟩

theorem s_slt1 (k a b : Int) (hk : 1 ≤ k) (hk' : k ≤ 64) (h : bits .xor .u64 (bits .and .u64 a (mk k)) (IntKind.u64.wrap (2 ^ (k.toNat - 1))) < bits .xor .u64 (bits .and .u64 b (mk k)) (IntKind.u64.wrap (2 ^ (k.toNat - 1)))) (w : World) : Calls Try.prog 4 #[.int .i64 40, .int .i64 k, .int .u64 a, .int .u64 b] w fun e w' => e = .returned (.int .u64 (1)) ∧ w' = w := by
  go_enter Try.func4, Try.ntmps4
  go_wp2_with (first
    | (go_at_call 6; refine (l6Mask_ok k hk hk' _).mono ?_; rintro e w1 ⟨rfl, rfl⟩)
    | go_in)
  all_goals go_ret
  all_goals exact ⟨rfl, rfl⟩

theorem s_slt0 (k a b : Int) (hk : 1 ≤ k) (hk' : k ≤ 64) (h : ¬ bits .xor .u64 (bits .and .u64 a (mk k)) (IntKind.u64.wrap (2 ^ (k.toNat - 1))) < bits .xor .u64 (bits .and .u64 b (mk k)) (IntKind.u64.wrap (2 ^ (k.toNat - 1)))) (w : World) : Calls Try.prog 4 #[.int .i64 40, .int .i64 k, .int .u64 a, .int .u64 b] w fun e w' => e = .returned (.int .u64 (0)) ∧ w' = w := by
  go_enter Try.func4, Try.ntmps4
  go_wp2_with (first
    | (go_at_call 6; refine (l6Mask_ok k hk hk' _).mono ?_; rintro e w1 ⟨rfl, rfl⟩)
    | go_in)
  all_goals go_ret
  all_goals exact ⟨rfl, rfl⟩

theorem s_sle1 (k a b : Int) (hk : 1 ≤ k) (hk' : k ≤ 64) (h : bits .xor .u64 (bits .and .u64 a (mk k)) (IntKind.u64.wrap (2 ^ (k.toNat - 1))) ≤ bits .xor .u64 (bits .and .u64 b (mk k)) (IntKind.u64.wrap (2 ^ (k.toNat - 1)))) (w : World) : Calls Try.prog 4 #[.int .i64 41, .int .i64 k, .int .u64 a, .int .u64 b] w fun e w' => e = .returned (.int .u64 (1)) ∧ w' = w := by
  go_enter Try.func4, Try.ntmps4
  go_wp2_with (first
    | (go_at_call 6; refine (l6Mask_ok k hk hk' _).mono ?_; rintro e w1 ⟨rfl, rfl⟩)
    | go_in)
  all_goals go_ret
  all_goals exact ⟨rfl, rfl⟩

theorem s_sle0 (k a b : Int) (hk : 1 ≤ k) (hk' : k ≤ 64) (h : ¬ bits .xor .u64 (bits .and .u64 a (mk k)) (IntKind.u64.wrap (2 ^ (k.toNat - 1))) ≤ bits .xor .u64 (bits .and .u64 b (mk k)) (IntKind.u64.wrap (2 ^ (k.toNat - 1)))) (w : World) : Calls Try.prog 4 #[.int .i64 41, .int .i64 k, .int .u64 a, .int .u64 b] w fun e w' => e = .returned (.int .u64 (0)) ∧ w' = w := by
  go_enter Try.func4, Try.ntmps4
  go_wp2_with (first
    | (go_at_call 6; refine (l6Mask_ok k hk hk' _).mono ?_; rintro e w1 ⟨rfl, rfl⟩)
    | go_in)
  all_goals go_ret
  all_goals exact ⟨rfl, rfl⟩

theorem s_other (op k a b : Int) (hk : 1 ≤ k) (hk' : k ≤ 64) (h9 : op ≠ 9) (h25 : op ≠ 25) (h26 : op ≠ 26) (h27 : op ≠ 27) (h28 : op ≠ 28) (h29 : op ≠ 29) (h30 : op ≠ 30) (h31 : op ≠ 31) (h32 : op ≠ 32) (h33 : op ≠ 33) (h34 : op ≠ 34) (h35 : op ≠ 35) (h36 : op ≠ 36) (h37 : op ≠ 37) (h38 : op ≠ 38) (h39 : op ≠ 39) (h40 : op ≠ 40) (h41 : op ≠ 41) (w : World) : Calls Try.prog 4 #[.int .i64 op, .int .i64 k, .int .u64 a, .int .u64 b] w fun e w' => e = .returned (.int .u64 (bits .and .u64 0 (mk k))) ∧ w' = w := by
  go_enter Try.func4, Try.ntmps4
  go_wp2_with (first
    | (go_at_call 6; refine (l6Mask_ok k hk hk' _).mono ?_; rintro e w1 ⟨rfl, rfl⟩)
    | go_in)
  all_goals go_ret
  all_goals exact ⟨rfl, rfl⟩

theorem s_width (op k a b : Int) (hk : k < 1 ∨ 64 < k) (w : World) : Calls Try.prog 4 #[.int .i64 op, .int .i64 k, .int .u64 a, .int .u64 b] w fun e w' => e = .returned (.int .u64 0) ∧ w' = w := by
  rcases hk with hk | hk
  · go_enter Try.func4, Try.ntmps4
    go_wp2
    all_goals go_ret
    all_goals exact ⟨rfl, rfl⟩
  · have h1 : ¬ k < 1 := by omega
    go_enter Try.func4, Try.ntmps4
    go_wp2
    all_goals go_ret
    all_goals exact ⟨rfl, rfl⟩

end Go.Proofs.Ythhckkcbllcfcaa.fnExactBitsOp

import Derived.Test.YthhckkcbllcfcaaBoA
namespace Go.Proofs.Ythhckkcbllcfcaa.fnExactBitsOp
open Go.ChangeShapes Go.WideShapes Go.ChangeAt Go.RowKit

theorem c_eq1 (k A B : Int) (h : A = B) (w : World) : Calls Try.prog 10 #[.int .i64 k, .int .u64 A, .int .u64 B] w fun e w' => e = .returned (.int .u64 (1)) ∧ w' = w := by
  go_enter Try.func10, Try.ntmps10
  go_wp2
  all_goals go_ret
  all_goals exact ⟨rfl, rfl⟩

theorem c_eq0 (k A B : Int) (h : A ≠ B) (w : World) : Calls Try.prog 10 #[.int .i64 k, .int .u64 A, .int .u64 B] w fun e w' => e = .returned (.int .u64 (0)) ∧ w' = w := by
  go_enter Try.func10, Try.ntmps10
  go_wp2
  all_goals go_ret
  all_goals exact ⟨rfl, rfl⟩

theorem c_not (k A B : Int)  (w : World) : Calls Try.prog 12 #[.int .i64 k, .int .u64 A, .int .u64 B] w fun e w' => e = .returned (.int .u64 (bits .xor .u64 IntKind.u64.max A)) ∧ w' = w := by
  go_enter Try.func12, Try.ntmps12
  go_wp2
  all_goals go_ret
  all_goals exact ⟨rfl, rfl⟩

theorem c_neg (k A B : Int)  (w : World) : Calls Try.prog 13 #[.int .i64 k, .int .u64 A, .int .u64 B] w fun e w' => e = .returned (.int .u64 (IntKind.u64.wrap (-A))) ∧ w' = w := by
  go_enter Try.func13, Try.ntmps13
  go_wp2
  all_goals go_ret
  all_goals exact ⟨rfl, rfl⟩

theorem c_and (k A B : Int)  (w : World) : Calls Try.prog 14 #[.int .i64 k, .int .u64 A, .int .u64 B] w fun e w' => e = .returned (.int .u64 (bits .and .u64 A B)) ∧ w' = w := by
  go_enter Try.func14, Try.ntmps14
  go_wp2
  all_goals go_ret
  all_goals exact ⟨rfl, rfl⟩

theorem c_or (k A B : Int)  (w : World) : Calls Try.prog 15 #[.int .i64 k, .int .u64 A, .int .u64 B] w fun e w' => e = .returned (.int .u64 (bits .or .u64 A B)) ∧ w' = w := by
  go_enter Try.func15, Try.ntmps15
  go_wp2
  all_goals go_ret
  all_goals exact ⟨rfl, rfl⟩

theorem c_xor (k A B : Int)  (w : World) : Calls Try.prog 16 #[.int .i64 k, .int .u64 A, .int .u64 B] w fun e w' => e = .returned (.int .u64 (bits .xor .u64 A B)) ∧ w' = w := by
  go_enter Try.func16, Try.ntmps16
  go_wp2
  all_goals go_ret
  all_goals exact ⟨rfl, rfl⟩

theorem c_add (k A B : Int)  (w : World) : Calls Try.prog 17 #[.int .i64 k, .int .u64 A, .int .u64 B] w fun e w' => e = .returned (.int .u64 (IntKind.u64.wrap (A + B))) ∧ w' = w := by
  go_enter Try.func17, Try.ntmps17
  go_wp2
  all_goals go_ret
  all_goals exact ⟨rfl, rfl⟩

theorem c_sub (k A B : Int)  (w : World) : Calls Try.prog 18 #[.int .i64 k, .int .u64 A, .int .u64 B] w fun e w' => e = .returned (.int .u64 (IntKind.u64.wrap (A - B))) ∧ w' = w := by
  go_enter Try.func18, Try.ntmps18
  go_wp2
  all_goals go_ret
  all_goals exact ⟨rfl, rfl⟩

theorem c_mul (k A B : Int)  (w : World) : Calls Try.prog 19 #[.int .i64 k, .int .u64 A, .int .u64 B] w fun e w' => e = .returned (.int .u64 (IntKind.u64.wrap (A * B))) ∧ w' = w := by
  go_enter Try.func19, Try.ntmps19
  go_wp2
  all_goals go_ret
  all_goals exact ⟨rfl, rfl⟩

theorem c_div0 (k A B : Int) (h : B = 0) (w : World) : Calls Try.prog 20 #[.int .i64 k, .int .u64 A, .int .u64 B] w fun e w' => e = .returned (.int .u64 (18446744073709551615)) ∧ w' = w := by
  go_enter Try.func20, Try.ntmps20
  go_wp2
  all_goals go_ret
  all_goals exact ⟨rfl, rfl⟩

theorem c_div (k A B : Int) (h : B ≠ 0) (w : World) : Calls Try.prog 20 #[.int .i64 k, .int .u64 A, .int .u64 B] w fun e w' => e = .returned (.int .u64 (IntKind.u64.wrap (A.tdiv B))) ∧ w' = w := by
  go_enter Try.func20, Try.ntmps20
  go_wp2
  all_goals go_ret
  all_goals exact ⟨rfl, rfl⟩

theorem c_rem0 (k A B : Int) (h : B = 0) (w : World) : Calls Try.prog 21 #[.int .i64 k, .int .u64 A, .int .u64 B] w fun e w' => e = .returned (.int .u64 (A)) ∧ w' = w := by
  go_enter Try.func21, Try.ntmps21
  go_wp2
  all_goals go_ret
  all_goals exact ⟨rfl, rfl⟩

theorem c_rem (k A B : Int) (h : B ≠ 0) (w : World) : Calls Try.prog 21 #[.int .i64 k, .int .u64 A, .int .u64 B] w fun e w' => e = .returned (.int .u64 (A.tmod B)) ∧ w' = w := by
  go_enter Try.func21, Try.ntmps21
  go_wp2
  all_goals go_ret
  all_goals exact ⟨rfl, rfl⟩

theorem c_shl (k A B : Int) (hB : 0 ≤ B) (w : World) : Calls Try.prog 22 #[.int .i64 k, .int .u64 A, .int .u64 B] w fun e w' => e = .returned (.int .u64 (IntKind.u64.wrap (A * 2 ^ min B.toNat 64))) ∧ w' = w := by
  go_enter Try.func22, Try.ntmps22
  go_wp2
  all_goals go_ret
  all_goals exact ⟨rfl, rfl⟩

theorem c_shr (k A B : Int) (hB : 0 ≤ B) (w : World) : Calls Try.prog 23 #[.int .i64 k, .int .u64 A, .int .u64 B] w fun e w' => e = .returned (.int .u64 (A / 2 ^ min B.toNat 64)) ∧ w' = w := by
  go_enter Try.func23, Try.ntmps23
  go_wp2
  all_goals go_ret
  all_goals exact ⟨rfl, rfl⟩

theorem c_sar (k A B : Int) (hk : 1 ≤ k) (hk' : k ≤ 64) (hB : 0 ≤ B) (w : World) : Calls Try.prog 24 #[.int .i64 k, .int .u64 A, .int .u64 B] w fun e w' => e = .returned (.int .u64 (IntKind.u64.wrap ((wrap64 (IntKind.u64.wrap (A * 2 ^ (64 - k).toNat)) / 2 ^ (64 - k).toNat) / 2 ^ min B.toNat 64))) ∧ w' = w := by
  go_enter Try.func24, Try.ntmps24
  go_wp2
  all_goals go_ret
  all_goals exact ⟨rfl, rfl⟩

theorem c_ult1 (k A B : Int) (h : A < B) (w : World) : Calls Try.prog 26 #[.int .i64 k, .int .u64 A, .int .u64 B] w fun e w' => e = .returned (.int .u64 (1)) ∧ w' = w := by
  go_enter Try.func26, Try.ntmps26
  go_wp2
  all_goals go_ret
  all_goals exact ⟨rfl, rfl⟩

theorem c_ult0 (k A B : Int) (h : ¬ A < B) (w : World) : Calls Try.prog 26 #[.int .i64 k, .int .u64 A, .int .u64 B] w fun e w' => e = .returned (.int .u64 (0)) ∧ w' = w := by
  go_enter Try.func26, Try.ntmps26
  go_wp2
  all_goals go_ret
  all_goals exact ⟨rfl, rfl⟩

theorem c_ule1 (k A B : Int) (h : A ≤ B) (w : World) : Calls Try.prog 27 #[.int .i64 k, .int .u64 A, .int .u64 B] w fun e w' => e = .returned (.int .u64 (1)) ∧ w' = w := by
  go_enter Try.func27, Try.ntmps27
  go_wp2
  all_goals go_ret
  all_goals exact ⟨rfl, rfl⟩

theorem c_ule0 (k A B : Int) (h : ¬ A ≤ B) (w : World) : Calls Try.prog 27 #[.int .i64 k, .int .u64 A, .int .u64 B] w fun e w' => e = .returned (.int .u64 (0)) ∧ w' = w := by
  go_enter Try.func27, Try.ntmps27
  go_wp2
  all_goals go_ret
  all_goals exact ⟨rfl, rfl⟩

theorem c_slt1 (k A B : Int) (hk : 1 ≤ k) (hk' : k ≤ 64) (h : (wrap64 (IntKind.u64.wrap (A * 2 ^ (64 - k).toNat)) / 2 ^ (64 - k).toNat) < (wrap64 (IntKind.u64.wrap (B * 2 ^ (64 - k).toNat)) / 2 ^ (64 - k).toNat)) (w : World) : Calls Try.prog 28 #[.int .i64 k, .int .u64 A, .int .u64 B] w fun e w' => e = .returned (.int .u64 (1)) ∧ w' = w := by
  go_enter Try.func28, Try.ntmps28
  go_wp2
  all_goals go_ret
  all_goals exact ⟨rfl, rfl⟩

theorem c_slt0 (k A B : Int) (hk : 1 ≤ k) (hk' : k ≤ 64) (h : ¬ (wrap64 (IntKind.u64.wrap (A * 2 ^ (64 - k).toNat)) / 2 ^ (64 - k).toNat) < (wrap64 (IntKind.u64.wrap (B * 2 ^ (64 - k).toNat)) / 2 ^ (64 - k).toNat)) (w : World) : Calls Try.prog 28 #[.int .i64 k, .int .u64 A, .int .u64 B] w fun e w' => e = .returned (.int .u64 (0)) ∧ w' = w := by
  go_enter Try.func28, Try.ntmps28
  go_wp2
  all_goals go_ret
  all_goals exact ⟨rfl, rfl⟩

theorem c_sle1 (k A B : Int) (hk : 1 ≤ k) (hk' : k ≤ 64) (h : (wrap64 (IntKind.u64.wrap (A * 2 ^ (64 - k).toNat)) / 2 ^ (64 - k).toNat) ≤ (wrap64 (IntKind.u64.wrap (B * 2 ^ (64 - k).toNat)) / 2 ^ (64 - k).toNat)) (w : World) : Calls Try.prog 29 #[.int .i64 k, .int .u64 A, .int .u64 B] w fun e w' => e = .returned (.int .u64 (1)) ∧ w' = w := by
  go_enter Try.func29, Try.ntmps29
  go_wp2
  all_goals go_ret
  all_goals exact ⟨rfl, rfl⟩

theorem c_sle0 (k A B : Int) (hk : 1 ≤ k) (hk' : k ≤ 64) (h : ¬ (wrap64 (IntKind.u64.wrap (A * 2 ^ (64 - k).toNat)) / 2 ^ (64 - k).toNat) ≤ (wrap64 (IntKind.u64.wrap (B * 2 ^ (64 - k).toNat)) / 2 ^ (64 - k).toNat)) (w : World) : Calls Try.prog 29 #[.int .i64 k, .int .u64 A, .int .u64 B] w fun e w' => e = .returned (.int .u64 (0)) ∧ w' = w := by
  go_enter Try.func29, Try.ntmps29
  go_wp2
  all_goals go_ret
  all_goals exact ⟨rfl, rfl⟩

end Go.Proofs.Ythhckkcbllcfcaa.fnExactBitsOp

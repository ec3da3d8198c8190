import Derived.Test.YthhckkcbllcfcaaRows
import Derived.WalkKit
import Derived.ProofKit
import Derived.OpenShut
import Derived.Laws.EntriesVeiled
import Derived.Deep.WholeRow
namespace Go.Proofs.Ythhckkcbllcfcaa.fnExactBitsOp
open Go.ChangeShapes Go.WideShapes Go.ChangeAt Go.RowKit

/-- A whole array into the block that was made last. -/
theorem wpList_storeRow {P : Program} {ops : Array Oper} {Q : Exit → Act → World → Prop} {rest : List Oper} {w : World} {T : Array Value} {D : List Deferred} {t : TypeId} {c c' : Array Value} {i j : Nat} {po : String} {af : Array Edge}
    (hi : (P.info? t).map (·.size) = some c'.size) (ho : c.size = c'.size) (h1 : c'.all (·.oneCell') = true)
    (hx : T[i]? = some (.pointer (some ⟨w.heap.size, 0, none⟩))) (hy : T[j]? = some (.agg c'))
    (h : wpList P ops Q rest ⟨T, D⟩ (w.alloc (.cells c' t))) :
    wpList P ops Q (⟨none, .store t (.tmp i) (.tmp j), 0, po, af, none⟩ :: rest) ⟨T, D⟩ (w.alloc (.cells c t)) := by
  refine wpList_plain rfl fun K hK => ?_
  have hst := run_storeAt_new (P := P) w t c c' hi ho h1
  have hx' : T.getD i undef = .pointer (some ⟨w.heap.size, 0, none⟩) := by simp [Array.getD_eq_getD_getElem?, hx]
  have hy' : T.getD j undef = .agg c' := by simp [Array.getD_eq_getD_getElem?, hy]
  have := hK _ _ h
  unfold Oper.wp
  simp only [execOp, Act.eval, hx', hy', Sem.run_bind, hst, Result.andThen_ok, Sem.run_pure]
  exact this

def wk : Array Value := #[Value.nilFunc, Value.nilFunc, Value.nilFunc, Value.nilFunc, Value.nilFunc, Value.nilFunc, Value.nilFunc,
              Value.nilFunc, Value.nilFunc, Value.func (Fn.func 10) #[] #[], Value.nilFunc, Value.nilFunc,
              Value.nilFunc, Value.nilFunc, Value.nilFunc, Value.nilFunc, Value.nilFunc, Value.nilFunc, Value.nilFunc,
              Value.nilFunc, Value.nilFunc, Value.nilFunc, Value.nilFunc, Value.nilFunc, Value.nilFunc,
              Value.func (Fn.func 12) #[] #[], Value.func (Fn.func 13) #[] #[], Value.func (Fn.func 14) #[] #[],
              Value.func (Fn.func 15) #[] #[], Value.func (Fn.func 16) #[] #[], Value.func (Fn.func 17) #[] #[],
              Value.func (Fn.func 18) #[] #[], Value.func (Fn.func 19) #[] #[], Value.func (Fn.func 20) #[] #[],
              Value.func (Fn.func 21) #[] #[], Value.func (Fn.func 22) #[] #[], Value.func (Fn.func 23) #[] #[],
              Value.func (Fn.func 24) #[] #[], Value.func (Fn.func 26) #[] #[], Value.func (Fn.func 27) #[] #[],
              Value.func (Fn.func 28) #[] #[], Value.func (Fn.func 29) #[] #[]]

theorem works_ok (w : World) : Calls Try.prog 8 #[] w fun e w' => e = .returned (.agg wk) ∧ w' = w.alloc (.cells wk 29) := by
  go_enter Try.func8, Try.ntmps8
  go_wp2_with (refine wpList_storeRow (c' := wk) (by kernel_rfl) rfl (by kernel_rfl) rfl rfl ?_)
  refine bodyPost_ret (v := .agg wk) ?_ rfl ⟨rfl, rfl⟩
  have hl := run_loadVar_new (P := Try.prog) w 29 wk 42 28 Try.underlying29 (by kernel_rfl)
  simp [results, Try.results8, asAddr, hl]


/-- The mask of so many bits. -/
def mk (k : Int) : Int := 2 ^ k.toNat - 1

theorem mask_math : ∀ n : Nat, n < 65 → (18446744073709551615 : Int) / 2 ^ (64 - n) = 2 ^ n - 1 := by decide
theorem mask_mathS : ∀ n : Nat, n < 64 → IntKind.u64.wrap (IntKind.u64.wrap (2 ^ n) - 1) = 2 ^ n - 1 := by decide

theorem widthMask_ok (k : Int) (h : 1 ≤ k) (h' : k ≤ 64) (w : World) : Calls Try.prog 9 #[.int .i64 k] w fun e w' => e = .returned (.int .u64 (mk k)) ∧ w' = w := by
  have hm := mask_math k.toNat (by omega)
  have e1 : (64 - k).toNat = 64 - k.toNat := by omega
  go_enter Try.func9, Try.ntmps9
  go_wp2
  go_ret
  exact ⟨rfl, rfl⟩

theorem l6Mask_ok (k : Int) (h : 1 ≤ k) (h' : k ≤ 64) (w : World) : Calls Try.prog 6 #[.int .i64 k] w fun e w' => e = .returned (.int .u64 (mk k)) ∧ w' = w := by
  by_cases h64 : 64 ≤ k
  · have : k = 64 := by omega
    subst this
    go_enter Try.func6, Try.ntmps6
    go_wp2
    go_ret
    exact ⟨rfl, rfl⟩
  · have hm := mask_mathS k.toNat (by omega)
    go_enter Try.func6, Try.ntmps6
    go_wp2
    go_ret
    exact ⟨rfl, rfl⟩

theorem eq_fn (n : Nat) (w : World) : (binOp .eql 28 (.func (.func n) #[] #[]) .nilFunc).run Try.prog w = .ok (.bool false) w := by
  kernel_rfl
theorem eq_nil (w : World) : (binOp .eql 28 .nilFunc .nilFunc).run Try.prog w = .ok (.bool true) w := by
  kernel_rfl

theorem bo_fn (op k a b : Int) (h0 : 0 ≤ op) (h1 : op < 42) (hk : 1 ≤ k) (hk' : k ≤ 64) (n : Nat) (hn : wk[op.toNat]? = some (.func (.func n) #[] #[])) (V : Int)
    (hcf : ∀ args w, (callFunc n args).run Try.prog w = .ok (.enter n args) w)
    (hV : ∀ w, Calls Try.prog n #[.int .i64 k, .int .u64 (bits .and .u64 a (mk k)), .int .u64 (bits .and .u64 b (mk k))] w fun e w' => e = .returned (.int .u64 V) ∧ w' = w)
    (w : World) : Calls Try.prog 5 #[.int .i64 op, .int .i64 k, .int .u64 a, .int .u64 b] w fun e w' => e = .returned (.int .u64 (bits .and .u64 V (mk k))) ∧ Grown w w' := by
  have eq_fn := eq_fn n
  have hc : ((w.alloc (.cells wk 29)).alloc (.cells wk 29)).cell? ⟨w.heap.size + 1, op.toNat, none⟩ = some (.func (.func n) #[] #[]) := by
    have := cell_of_row ((w.alloc (.cells wk 29)).alloc (.cells wk 29)) (w.heap.size + 1) op.toNat wk 29 (0, 0) (by simpa using heap_alloc_last (w.alloc (.cells wk 29)) (.cells wk 29))
    rw [this, hn]
  go_enter Try.func5, Try.ntmps5
  go_wp2_with (first
    | (refine wpList_storeRow (c' := wk) (by kernel_rfl) rfl (by kernel_rfl) (by simp) rfl ?_)
    | (go_at_call 8; refine (works_ok _).mono ?_; rintro e w1 ⟨rfl, rfl⟩)
    | (go_at_call 9; refine (widthMask_ok k hk hk' _).mono ?_; rintro e w1 ⟨rfl, rfl⟩)
    | (refine (hV _).mono ?_; rintro e w1 ⟨rfl, rfl⟩))
  go_ret
  exact ⟨rfl, ((Grown.refl _).alloc _ _).alloc _ _⟩
theorem bo_nil (op k a b : Int) (h0 : 0 ≤ op) (h1 : op < 42) (hn : wk[op.toNat]? = some .nilFunc)
    (w : World) : Calls Try.prog 5 #[.int .i64 op, .int .i64 k, .int .u64 a, .int .u64 b] w fun e w' => e = .returned (.int .u64 0) ∧ Grown w w' := by
  have eq_nil := eq_nil
  have hc : ((w.alloc (.cells wk 29)).alloc (.cells wk 29)).cell? ⟨w.heap.size + 1, op.toNat, none⟩ = some .nilFunc := by
    have := cell_of_row ((w.alloc (.cells wk 29)).alloc (.cells wk 29)) (w.heap.size + 1) op.toNat wk 29 (0, 0) (by simpa using heap_alloc_last (w.alloc (.cells wk 29)) (.cells wk 29))
    rw [this, hn]
  go_enter Try.func5, Try.ntmps5
  go_wp2_with (first
    | (refine wpList_storeRow (c' := wk) (by kernel_rfl) rfl (by kernel_rfl) (by simp) rfl ?_)
    | (go_at_call 8; refine (works_ok _).mono ?_; rintro e w1 ⟨rfl, rfl⟩))
  all_goals go_ret
  all_goals exact ⟨rfl, ((Grown.refl _).alloc _ _).alloc _ _⟩
theorem bo_out (op k a b : Int) (h0 : op < 0 ∨ 42 ≤ op)
    (w : World) : Calls Try.prog 5 #[.int .i64 op, .int .i64 k, .int .u64 a, .int .u64 b] w fun e w' => e = .returned (.int .u64 0) ∧ Grown w w' := by
  rcases h0 with h0 | h0
  · go_enter Try.func5, Try.ntmps5
    go_wp2_with (first
      | (refine wpList_storeRow (c' := wk) (by kernel_rfl) rfl (by kernel_rfl) (by simp) rfl ?_)
      | (go_at_call 8; refine (works_ok _).mono ?_; rintro e w1 ⟨rfl, rfl⟩))
    all_goals go_ret
    all_goals exact ⟨rfl, ((Grown.refl _).alloc _ _).alloc _ _⟩
  · go_enter Try.func5, Try.ntmps5
    go_wp2_with (first
      | (refine wpList_storeRow (c' := wk) (by kernel_rfl) rfl (by kernel_rfl) (by simp) rfl ?_)
      | (go_at_call 8; refine (works_ok _).mono ?_; rintro e w1 ⟨rfl, rfl⟩))
    all_goals go_ret
    all_goals exact ⟨rfl, ((Grown.refl _).alloc _ _).alloc _ _⟩
theorem bo_width (op k a b : Int) (h0 : 0 ≤ op) (h1 : op < 42) (hk : k < 1 ∨ 64 < k) (n : Nat) (hn : wk[op.toNat]? = some (.func (.func n) #[] #[]))
    (w : World) : Calls Try.prog 5 #[.int .i64 op, .int .i64 k, .int .u64 a, .int .u64 b] w fun e w' => e = .returned (.int .u64 0) ∧ Grown w w' := by
  have eq_fn := eq_fn n
  have hc : ((w.alloc (.cells wk 29)).alloc (.cells wk 29)).cell? ⟨w.heap.size + 1, op.toNat, none⟩ = some (.func (.func n) #[] #[]) := by
    have := cell_of_row ((w.alloc (.cells wk 29)).alloc (.cells wk 29)) (w.heap.size + 1) op.toNat wk 29 (0, 0) (by simpa using heap_alloc_last (w.alloc (.cells wk 29)) (.cells wk 29))
    rw [this, hn]
  rcases hk with hk | hk
  · go_enter Try.func5, Try.ntmps5
    go_wp2_with (first
      | (refine wpList_storeRow (c' := wk) (by kernel_rfl) rfl (by kernel_rfl) (by simp) rfl ?_)
      | (go_at_call 8; refine (works_ok _).mono ?_; rintro e w1 ⟨rfl, rfl⟩))
    all_goals go_ret
    all_goals exact ⟨rfl, ((Grown.refl _).alloc _ _).alloc _ _⟩
  · go_enter Try.func5, Try.ntmps5
    go_wp2_with (first
      | (refine wpList_storeRow (c' := wk) (by kernel_rfl) rfl (by kernel_rfl) (by simp) rfl ?_)
      | (go_at_call 8; refine (works_ok _).mono ?_; rintro e w1 ⟨rfl, rfl⟩))
    all_goals go_ret
    all_goals exact ⟨rfl, ((Grown.refl _).alloc _ _).alloc _ _⟩
end Go.Proofs.Ythhckkcbllcfcaa.fnExactBitsOp

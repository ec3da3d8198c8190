import Derived.Test.YthhckkcbllcfcaaBoC
import Derived.Test.YthhckkcbllcfcaaBoF
namespace Go.Proofs.Ythhckkcbllcfcaa.fnExactBitsOp
open Go.ChangeShapes Go.WideShapes Go.ChangeAt Go.RowKit
set_option linter.unusedVariables false

theorem own : ownKnob Try.prog.godebug = none := by kernel_rfl


/-- The law's walk, both sides told. -/
theorem law_of (a0 a1 a2 a3 u v : Int) (w : World) (huv : u = v)
    (hs : ∀ w, Calls Try.prog 4 #[.int .i64 a0, .int .i64 a1, .int .u64 a2, .int .u64 a3] w fun e w' => e = .returned (.int .u64 u) ∧ w' = w)
    (hi : ∀ w, Calls Try.prog 5 #[.int .i64 a0, .int .i64 a1, .int .u64 a2, .int .u64 a3] w fun e w' => e = .returned (.int .u64 v) ∧ Grown w w') :
    Calls Try.prog 3 #[.int .i64 a0, .int .i64 a1, .int .u64 a2, .int .u64 a3] w fun e w' => e = .returned (.bool true) ∧ Grown w w' := by
  subst huv
  go_enter Try.func3, Try.ntmps3
  go_wp2_with (first
    | (go_at_call 4; refine (hs _).mono ?_; rintro e w1 ⟨rfl, rfl⟩)
    | (go_at_call 5; refine (hi _).mono ?_; rintro e w2 ⟨rfl, hg⟩))
  go_ret
  exact ⟨rfl, hg⟩

theorem cf (n : Nat) (fn : Func) (hf : Try.prog.funcs[n]? = some fn) (h1 : (fn.name == "runtime.NumGoroutine") = false) (h2 : fn.body.isNone = false) :
    ∀ args w, (callFunc n args).run Try.prog w = .ok (.enter n args) w := by
  intro args w
  have h3 : ¬ fn.name = "runtime.NumGoroutine" := by simpa using h1
  have h4 : ¬ fn.body = none := by intro e; rw [e] at h2; exact absurd h2 (by decide)
  simp [callFunc, go_sem, hf, h3, h4]

/-- The numbers that both sides take in. -/
theorem word_in (k : Int) (hk' : k ≤ 64) (a : Int) (h : (Lit.int .u64 a).wf = true) :
    ∃ x : Nat, bits .and .u64 a (mk k) = (x : Int) ∧ x < 2 ^ k.toNat ∧ x < 18446744073709551616 := by
  have ha : 0 ≤ a ∧ a ≤ 18446744073709551615 := by
    simpa [Lit.wf, IntKind.min, IntKind.max, IntKind.bits, IntKind.signed] using h
  obtain ⟨n, hn⟩ : ∃ n : Nat, a = n := ⟨a.toNat, by omega⟩
  subst hn
  have h2 := pow_le64 (n := k.toNat) (by omega)
  have h3 : n % 2 ^ k.toNat < 2 ^ k.toNat := Nat.mod_lt _ (Nat.two_pow_pos _)
  exact ⟨n % 2 ^ k.toNat, and_mk k hk' n (by omega), h3, by omega⟩

theorem and_one (k : Int) (hk : 1 ≤ k) (hk' : k ≤ 64) : bits .and .u64 1 (mk k) = 1 := by
  have := and_mk k hk' 1 (by decide)
  have h2 : 1 < 2 ^ k.toNat := Nat.one_lt_two_pow (by omega)
  rw [Nat.mod_eq_of_lt h2] at this
  exact this
theorem and_zero (k : Int) (hk' : k ≤ 64) : bits .and .u64 0 (mk k) = 0 := by
  have := and_mk k hk' 0 (by decide)
  rw [Nat.zero_mod] at this
  exact this
theorem ones_mod : ∀ n : Nat, n < 65 → 18446744073709551615 % 2 ^ n = 2 ^ n - 1 := by decide
theorem and_ones (k : Int) (hk' : k ≤ 64) : bits .and .u64 (mk k) (mk k) = bits .and .u64 18446744073709551615 (mk k) := by
  have h2 := pow_le64 (n := k.toNat) (by omega)
  have h0 := Nat.two_pow_pos k.toNat
  have e1 := and_mk k hk' 18446744073709551615 (by decide)
  have e2 := and_mk k hk' (2 ^ k.toNat - 1) (by omega)
  rw [← mk_nat] at e2
  rw [e2, Nat.mod_eq_of_lt (by omega)]
  rw [ones_mod _ (by omega)] at e1
  exact e1.symm
theorem shl_out (k : Int) (hk' : k ≤ 64) (x b : Nat) (hb : k ≤ (b : Int)) :
    bits .and .u64 0 (mk k) = bits .and .u64 (IntKind.u64.wrap ((x : Int) * 2 ^ min b 64)) (mk k) := by
  obtain ⟨d, hd⟩ : ∃ d, min b 64 = d + k.toNat := ⟨min b 64 - k.toNat, by omega⟩
  rw [and_zero k hk', and_wrap k hk' _ (x * 2 ^ min b 64) (by simp), hd, Nat.pow_add, ← Nat.mul_assoc, Nat.mul_mod_left]
  rfl
theorem shr_out (k : Int) (hk' : k ≤ 64) (x b : Nat) (hx : x < 2 ^ k.toNat) (hb : k ≤ (b : Int)) :
    bits .and .u64 0 (mk k) = bits .and .u64 ((x : Int) / 2 ^ min b 64) (mk k) := by
  have e : (x : Int) / 2 ^ min b 64 = ((x / 2 ^ min b 64 : Nat) : Int) := by simp
  rw [e, Nat.div_eq_of_lt (Nat.lt_of_lt_of_le hx (Nat.pow_le_pow_right (by decide) (by omega)))]
  rfl

set_option maxHeartbeats 1000000 in
theorem walk (a0 : Int) (a1 : Int) (a2 : Int) (a3 : Int) (w0 : (Lit.int .i64 a0).wf = true) (w1 : (Lit.int .i64 a1).wf = true) (w2 : (Lit.int .u64 a2).wf = true) (w3 : (Lit.int .u64 a3).wf = true) (w : World) :
    Calls Try.prog 3 #[.int .i64 a0, .int .i64 a1, .int .u64 a2, .int .u64 a3] w fun e w' => e = .returned (.bool true) ∧ Grown w w' := by
  by_cases hop : 0 ≤ a0 ∧ a0 < 42
  case neg =>
    have hi := fun w => bo_out a0 a1 a2 a3 (by omega) w
    by_cases hk : 1 ≤ a1 ∧ a1 ≤ 64
    · exact law_of a0 a1 a2 a3 _ _ w (and_zero a1 hk.2) (fun w => s_other a0 a1 a2 a3 hk.1 hk.2 (by omega) (by omega) (by omega) (by omega) (by omega) (by omega) (by omega) (by omega) (by omega) (by omega) (by omega) (by omega) (by omega) (by omega) (by omega) (by omega) (by omega) (by omega) w) hi
    · exact law_of a0 a1 a2 a3 _ _ w rfl (fun w => s_width a0 a1 a2 a3 (by omega) w) hi
  case pos =>
  obtain ⟨h0, h1⟩ := hop
  by_cases hk : 1 ≤ a1 ∧ a1 ≤ 64
  case neg =>
    refine law_of a0 a1 a2 a3 _ _ w rfl (fun w => s_width a0 a1 a2 a3 (by omega) w) (fun w => ?_)
    have hw : ∀ i, i < 42 → wk[i]? = some .nilFunc ∨ ∃ n, wk[i]? = some (.func (.func n) #[] #[]) := by
      intro i hi
      have : ∀ i : Fin 42, (wk[i.val]? = some .nilFunc ∨ ∃ n, wk[i.val]? = some (.func (.func n) #[] #[])) := by
        intro i
        match i with
        | ⟨0, _⟩ => exact .inl rfl
        | ⟨1, _⟩ => exact .inl rfl
        | ⟨2, _⟩ => exact .inl rfl
        | ⟨3, _⟩ => exact .inl rfl
        | ⟨4, _⟩ => exact .inl rfl
        | ⟨5, _⟩ => exact .inl rfl
        | ⟨6, _⟩ => exact .inl rfl
        | ⟨7, _⟩ => exact .inl rfl
        | ⟨8, _⟩ => exact .inl rfl
        | ⟨9, _⟩ => exact .inr ⟨_, rfl⟩
        | ⟨10, _⟩ => exact .inl rfl
        | ⟨11, _⟩ => exact .inl rfl
        | ⟨12, _⟩ => exact .inl rfl
        | ⟨13, _⟩ => exact .inl rfl
        | ⟨14, _⟩ => exact .inl rfl
        | ⟨15, _⟩ => exact .inl rfl
        | ⟨16, _⟩ => exact .inl rfl
        | ⟨17, _⟩ => exact .inl rfl
        | ⟨18, _⟩ => exact .inl rfl
        | ⟨19, _⟩ => exact .inl rfl
        | ⟨20, _⟩ => exact .inl rfl
        | ⟨21, _⟩ => exact .inl rfl
        | ⟨22, _⟩ => exact .inl rfl
        | ⟨23, _⟩ => exact .inl rfl
        | ⟨24, _⟩ => exact .inl rfl
        | ⟨25, _⟩ => exact .inr ⟨_, rfl⟩
        | ⟨26, _⟩ => exact .inr ⟨_, rfl⟩
        | ⟨27, _⟩ => exact .inr ⟨_, rfl⟩
        | ⟨28, _⟩ => exact .inr ⟨_, rfl⟩
        | ⟨29, _⟩ => exact .inr ⟨_, rfl⟩
        | ⟨30, _⟩ => exact .inr ⟨_, rfl⟩
        | ⟨31, _⟩ => exact .inr ⟨_, rfl⟩
        | ⟨32, _⟩ => exact .inr ⟨_, rfl⟩
        | ⟨33, _⟩ => exact .inr ⟨_, rfl⟩
        | ⟨34, _⟩ => exact .inr ⟨_, rfl⟩
        | ⟨35, _⟩ => exact .inr ⟨_, rfl⟩
        | ⟨36, _⟩ => exact .inr ⟨_, rfl⟩
        | ⟨37, _⟩ => exact .inr ⟨_, rfl⟩
        | ⟨38, _⟩ => exact .inr ⟨_, rfl⟩
        | ⟨39, _⟩ => exact .inr ⟨_, rfl⟩
        | ⟨40, _⟩ => exact .inr ⟨_, rfl⟩
        | ⟨41, _⟩ => exact .inr ⟨_, rfl⟩
        | ⟨n + 42, h⟩ => omega
      exact this ⟨i, hi⟩
    rcases hw a0.toNat (by omega) with h | ⟨n, h⟩
    · exact bo_nil a0 a1 a2 a3 h0 h1 h w
    · exact bo_width a0 a1 a2 a3 h0 h1 (by omega) n h w
  case pos =>
  obtain ⟨hk, hk'⟩ := hk
  obtain ⟨x, hA, hx, hx2⟩ := word_in a1 hk' a2 w2
  obtain ⟨y, hB, hy, hy2⟩ := word_in a1 hk' a3 w3
  by_cases h9 : a0 = 9
  case pos =>
    subst h9
    by_cases h : (bits .and .u64 a2 (mk a1)) = (bits .and .u64 a3 (mk a1))
    · exact law_of 9 a1 a2 a3 _ _ w (and_one a1 hk hk').symm (fun w => s_eq1 a1 a2 a3 hk hk' h w) (fun w => bo_fn 9 a1 a2 a3 (by omega) (by omega) hk hk' 10 rfl _ (cf 10 Try.f10 Try.func10 (by kernel_rfl) rfl) (fun w => c_eq1 a1 (bits .and .u64 a2 (mk a1)) (bits .and .u64 a3 (mk a1)) h w) w)
    · exact law_of 9 a1 a2 a3 _ _ w (and_zero a1 hk').symm (fun w => s_eq0 a1 a2 a3 hk hk' h w) (fun w => bo_fn 9 a1 a2 a3 (by omega) (by omega) hk hk' 10 rfl _ (cf 10 Try.f10 Try.func10 (by kernel_rfl) rfl) (fun w => c_eq0 a1 (bits .and .u64 a2 (mk a1)) (bits .and .u64 a3 (mk a1)) h w) w)
  case neg =>
  by_cases h25 : a0 = 25
  case pos =>
    subst h25
    exact law_of 25 a1 a2 a3 _ _ w rfl (fun w => s_not a1 a2 a3 hk hk'  w) (fun w => bo_fn 25 a1 a2 a3 (by omega) (by omega) hk hk' 12 rfl _ (cf 12 Try.f12 Try.func12 (by kernel_rfl) rfl) (fun w => c_not a1 (bits .and .u64 a2 (mk a1)) (bits .and .u64 a3 (mk a1))  w) w)
  case neg =>
  by_cases h26 : a0 = 26
  case pos =>
    subst h26
    exact law_of 26 a1 a2 a3 _ _ w rfl (fun w => s_neg a1 a2 a3 hk hk'  w) (fun w => bo_fn 26 a1 a2 a3 (by omega) (by omega) hk hk' 13 rfl _ (cf 13 Try.f13 Try.func13 (by kernel_rfl) rfl) (fun w => c_neg a1 (bits .and .u64 a2 (mk a1)) (bits .and .u64 a3 (mk a1))  w) w)
  case neg =>
  by_cases h27 : a0 = 27
  case pos =>
    subst h27
    exact law_of 27 a1 a2 a3 _ _ w rfl (fun w => s_and a1 a2 a3 hk hk'  w) (fun w => bo_fn 27 a1 a2 a3 (by omega) (by omega) hk hk' 14 rfl _ (cf 14 Try.f14 Try.func14 (by kernel_rfl) rfl) (fun w => c_and a1 (bits .and .u64 a2 (mk a1)) (bits .and .u64 a3 (mk a1))  w) w)
  case neg =>
  by_cases h28 : a0 = 28
  case pos =>
    subst h28
    exact law_of 28 a1 a2 a3 _ _ w rfl (fun w => s_or a1 a2 a3 hk hk'  w) (fun w => bo_fn 28 a1 a2 a3 (by omega) (by omega) hk hk' 15 rfl _ (cf 15 Try.f15 Try.func15 (by kernel_rfl) rfl) (fun w => c_or a1 (bits .and .u64 a2 (mk a1)) (bits .and .u64 a3 (mk a1))  w) w)
  case neg =>
  by_cases h29 : a0 = 29
  case pos =>
    subst h29
    exact law_of 29 a1 a2 a3 _ _ w rfl (fun w => s_xor a1 a2 a3 hk hk'  w) (fun w => bo_fn 29 a1 a2 a3 (by omega) (by omega) hk hk' 16 rfl _ (cf 16 Try.f16 Try.func16 (by kernel_rfl) rfl) (fun w => c_xor a1 (bits .and .u64 a2 (mk a1)) (bits .and .u64 a3 (mk a1))  w) w)
  case neg =>
  by_cases h30 : a0 = 30
  case pos =>
    subst h30
    exact law_of 30 a1 a2 a3 _ _ w rfl (fun w => s_add a1 a2 a3 hk hk'  w) (fun w => bo_fn 30 a1 a2 a3 (by omega) (by omega) hk hk' 17 rfl _ (cf 17 Try.f17 Try.func17 (by kernel_rfl) rfl) (fun w => c_add a1 (bits .and .u64 a2 (mk a1)) (bits .and .u64 a3 (mk a1))  w) w)
  case neg =>
  by_cases h31 : a0 = 31
  case pos =>
    subst h31
    exact law_of 31 a1 a2 a3 _ _ w rfl (fun w => s_sub a1 a2 a3 hk hk'  w) (fun w => bo_fn 31 a1 a2 a3 (by omega) (by omega) hk hk' 18 rfl _ (cf 18 Try.f18 Try.func18 (by kernel_rfl) rfl) (fun w => c_sub a1 (bits .and .u64 a2 (mk a1)) (bits .and .u64 a3 (mk a1))  w) w)
  case neg =>
  by_cases h32 : a0 = 32
  case pos =>
    subst h32
    exact law_of 32 a1 a2 a3 _ _ w rfl (fun w => s_mul a1 a2 a3 hk hk'  w) (fun w => bo_fn 32 a1 a2 a3 (by omega) (by omega) hk hk' 19 rfl _ (cf 19 Try.f19 Try.func19 (by kernel_rfl) rfl) (fun w => c_mul a1 (bits .and .u64 a2 (mk a1)) (bits .and .u64 a3 (mk a1))  w) w)
  case neg =>
  by_cases h33 : a0 = 33
  case pos =>
    subst h33
    by_cases h : (bits .and .u64 a3 (mk a1)) = 0
    · exact law_of 33 a1 a2 a3 _ _ w (and_ones a1 hk') (fun w => s_div0 a1 a2 a3 hk hk' h w) (fun w => bo_fn 33 a1 a2 a3 (by omega) (by omega) hk hk' 20 rfl _ (cf 20 Try.f20 Try.func20 (by kernel_rfl) rfl) (fun w => c_div0 a1 (bits .and .u64 a2 (mk a1)) (bits .and .u64 a3 (mk a1)) h w) w)
    · exact law_of 33 a1 a2 a3 _ _ w rfl (fun w => s_div a1 a2 a3 hk hk' h w) (fun w => bo_fn 33 a1 a2 a3 (by omega) (by omega) hk hk' 20 rfl _ (cf 20 Try.f20 Try.func20 (by kernel_rfl) rfl) (fun w => c_div a1 (bits .and .u64 a2 (mk a1)) (bits .and .u64 a3 (mk a1)) h w) w)
  case neg =>
  by_cases h34 : a0 = 34
  case pos =>
    subst h34
    by_cases h : (bits .and .u64 a3 (mk a1)) = 0
    · exact law_of 34 a1 a2 a3 _ _ w rfl (fun w => s_rem0 a1 a2 a3 hk hk' h w) (fun w => bo_fn 34 a1 a2 a3 (by omega) (by omega) hk hk' 21 rfl _ (cf 21 Try.f21 Try.func21 (by kernel_rfl) rfl) (fun w => c_rem0 a1 (bits .and .u64 a2 (mk a1)) (bits .and .u64 a3 (mk a1)) h w) w)
    · exact law_of 34 a1 a2 a3 _ _ w rfl (fun w => s_rem a1 a2 a3 hk hk' h w) (fun w => bo_fn 34 a1 a2 a3 (by omega) (by omega) hk hk' 21 rfl _ (cf 21 Try.f21 Try.func21 (by kernel_rfl) rfl) (fun w => c_rem a1 (bits .and .u64 a2 (mk a1)) (bits .and .u64 a3 (mk a1)) h w) w)
  case neg =>
  by_cases h35 : a0 = 35
  case pos =>
    subst h35
    have hb0 : 0 ≤ (bits .and .u64 a3 (mk a1)) := by omega
    by_cases h : (bits .and .u64 a3 (mk a1)) < a1
    · have hm : min (bits .and .u64 a3 (mk a1)).toNat 64 = (bits .and .u64 a3 (mk a1)).toNat := by omega
      exact law_of 35 a1 a2 a3 _ _ w (by rw [hm]) (fun w => s_shl a1 a2 a3 hk hk' h hb0 w) (fun w => bo_fn 35 a1 a2 a3 (by omega) (by omega) hk hk' 22 rfl _ (cf 22 Try.f22 Try.func22 (by kernel_rfl) rfl) (fun w => c_shl a1 (bits .and .u64 a2 (mk a1)) (bits .and .u64 a3 (mk a1)) hb0 w) w)
    · exact law_of 35 a1 a2 a3 _ _ w (by rw [hA, hB]; exact shl_out a1 hk' x y (by omega)) (fun w => s_shl0 a1 a2 a3 hk hk' h w) (fun w => bo_fn 35 a1 a2 a3 (by omega) (by omega) hk hk' 22 rfl _ (cf 22 Try.f22 Try.func22 (by kernel_rfl) rfl) (fun w => c_shl a1 (bits .and .u64 a2 (mk a1)) (bits .and .u64 a3 (mk a1)) hb0 w) w)
  case neg =>
  by_cases h36 : a0 = 36
  case pos =>
    subst h36
    have hb0 : 0 ≤ (bits .and .u64 a3 (mk a1)) := by omega
    by_cases h : (bits .and .u64 a3 (mk a1)) < a1
    · have hm : min (bits .and .u64 a3 (mk a1)).toNat 64 = (bits .and .u64 a3 (mk a1)).toNat := by omega
      exact law_of 36 a1 a2 a3 _ _ w (by rw [hm]) (fun w => s_shr a1 a2 a3 hk hk' h hb0 w) (fun w => bo_fn 36 a1 a2 a3 (by omega) (by omega) hk hk' 23 rfl _ (cf 23 Try.f23 Try.func23 (by kernel_rfl) rfl) (fun w => c_shr a1 (bits .and .u64 a2 (mk a1)) (bits .and .u64 a3 (mk a1)) hb0 w) w)
    · exact law_of 36 a1 a2 a3 _ _ w (by rw [hA, hB]; exact shr_out a1 hk' x y hx (by omega)) (fun w => s_shr0 a1 a2 a3 hk hk' h w) (fun w => bo_fn 36 a1 a2 a3 (by omega) (by omega) hk hk' 23 rfl _ (cf 23 Try.f23 Try.func23 (by kernel_rfl) rfl) (fun w => c_shr a1 (bits .and .u64 a2 (mk a1)) (bits .and .u64 a3 (mk a1)) hb0 w) w)
  case neg =>
  by_cases h37 : a0 = 37
  case pos =>
    subst h37
    have hb0 : 0 ≤ (bits .and .u64 a3 (mk a1)) := by omega
    have hq := sar_same a1 hk hk' x y hx
    exact law_of 37 a1 a2 a3 _ _ w (by rw [hA, hB, sg_ok a1 hk hk' x hx, show ((y : Int)).toNat = y by omega]; exact hq.symm) (fun w => s_sar a1 a2 a3 _ _ hk hk' hA hB (by omega) (by omega) (by omega) (by omega) w) (fun w => bo_fn 37 a1 a2 a3 (by omega) (by omega) hk hk' 24 rfl _ (cf 24 Try.f24 Try.func24 (by kernel_rfl) rfl) (fun w => c_sar a1 (bits .and .u64 a2 (mk a1)) (bits .and .u64 a3 (mk a1)) hk hk' hb0 w) w)
  case neg =>
  by_cases h38 : a0 = 38
  case pos =>
    subst h38
    by_cases h : (bits .and .u64 a2 (mk a1)) < (bits .and .u64 a3 (mk a1))
    · exact law_of 38 a1 a2 a3 _ _ w (and_one a1 hk hk').symm (fun w => s_ult1 a1 a2 a3 hk hk' h w) (fun w => bo_fn 38 a1 a2 a3 (by omega) (by omega) hk hk' 26 rfl _ (cf 26 Try.f26 Try.func26 (by kernel_rfl) rfl) (fun w => c_ult1 a1 (bits .and .u64 a2 (mk a1)) (bits .and .u64 a3 (mk a1)) h w) w)
    · exact law_of 38 a1 a2 a3 _ _ w (and_zero a1 hk').symm (fun w => s_ult0 a1 a2 a3 hk hk' h w) (fun w => bo_fn 38 a1 a2 a3 (by omega) (by omega) hk hk' 26 rfl _ (cf 26 Try.f26 Try.func26 (by kernel_rfl) rfl) (fun w => c_ult0 a1 (bits .and .u64 a2 (mk a1)) (bits .and .u64 a3 (mk a1)) h w) w)
  case neg =>
  by_cases h39 : a0 = 39
  case pos =>
    subst h39
    by_cases h : (bits .and .u64 a2 (mk a1)) ≤ (bits .and .u64 a3 (mk a1))
    · exact law_of 39 a1 a2 a3 _ _ w (and_one a1 hk hk').symm (fun w => s_ule1 a1 a2 a3 hk hk' h w) (fun w => bo_fn 39 a1 a2 a3 (by omega) (by omega) hk hk' 27 rfl _ (cf 27 Try.f27 Try.func27 (by kernel_rfl) rfl) (fun w => c_ule1 a1 (bits .and .u64 a2 (mk a1)) (bits .and .u64 a3 (mk a1)) h w) w)
    · exact law_of 39 a1 a2 a3 _ _ w (and_zero a1 hk').symm (fun w => s_ule0 a1 a2 a3 hk hk' h w) (fun w => bo_fn 39 a1 a2 a3 (by omega) (by omega) hk hk' 27 rfl _ (cf 27 Try.f27 Try.func27 (by kernel_rfl) rfl) (fun w => c_ule0 a1 (bits .and .u64 a2 (mk a1)) (bits .and .u64 a3 (mk a1)) h w) w)
  case neg =>
  by_cases h40 : a0 = 40
  case pos =>
    subst h40
    have hq : (wrap64 (IntKind.u64.wrap ((bits .and .u64 a2 (mk a1)) * 2 ^ (64 - a1).toNat)) / 2 ^ (64 - a1).toNat) < (wrap64 (IntKind.u64.wrap ((bits .and .u64 a3 (mk a1)) * 2 ^ (64 - a1).toNat)) / 2 ^ (64 - a1).toNat) ↔ (bits .xor .u64 (bits .and .u64 a2 (mk a1)) (IntKind.u64.wrap (2 ^ (a1.toNat - 1)))) < (bits .xor .u64 (bits .and .u64 a3 (mk a1)) (IntKind.u64.wrap (2 ^ (a1.toNat - 1)))) := by
      rw [hA, hB, sg_ok a1 hk hk' x hx, sg_ok a1 hk hk' y hy, xor_sg a1.toNat (by omega) (by omega) x hx, xor_sg a1.toNat (by omega) (by omega) y hy]
      omega
    by_cases h : (bits .xor .u64 (bits .and .u64 a2 (mk a1)) (IntKind.u64.wrap (2 ^ (a1.toNat - 1)))) < (bits .xor .u64 (bits .and .u64 a3 (mk a1)) (IntKind.u64.wrap (2 ^ (a1.toNat - 1))))
    · exact law_of 40 a1 a2 a3 _ _ w (and_one a1 hk hk').symm (fun w => s_slt1 a1 a2 a3 hk hk' h w) (fun w => bo_fn 40 a1 a2 a3 (by omega) (by omega) hk hk' 28 rfl _ (cf 28 Try.f28 Try.func28 (by kernel_rfl) rfl) (fun w => c_slt1 a1 (bits .and .u64 a2 (mk a1)) (bits .and .u64 a3 (mk a1)) hk hk' (hq.2 h) w) w)
    · exact law_of 40 a1 a2 a3 _ _ w (and_zero a1 hk').symm (fun w => s_slt0 a1 a2 a3 hk hk' h w) (fun w => bo_fn 40 a1 a2 a3 (by omega) (by omega) hk hk' 28 rfl _ (cf 28 Try.f28 Try.func28 (by kernel_rfl) rfl) (fun w => c_slt0 a1 (bits .and .u64 a2 (mk a1)) (bits .and .u64 a3 (mk a1)) hk hk' (fun e => h (hq.1 e)) w) w)
  case neg =>
  by_cases h41 : a0 = 41
  case pos =>
    subst h41
    have hq : (wrap64 (IntKind.u64.wrap ((bits .and .u64 a2 (mk a1)) * 2 ^ (64 - a1).toNat)) / 2 ^ (64 - a1).toNat) ≤ (wrap64 (IntKind.u64.wrap ((bits .and .u64 a3 (mk a1)) * 2 ^ (64 - a1).toNat)) / 2 ^ (64 - a1).toNat) ↔ (bits .xor .u64 (bits .and .u64 a2 (mk a1)) (IntKind.u64.wrap (2 ^ (a1.toNat - 1)))) ≤ (bits .xor .u64 (bits .and .u64 a3 (mk a1)) (IntKind.u64.wrap (2 ^ (a1.toNat - 1)))) := by
      rw [hA, hB, sg_ok a1 hk hk' x hx, sg_ok a1 hk hk' y hy, xor_sg a1.toNat (by omega) (by omega) x hx, xor_sg a1.toNat (by omega) (by omega) y hy]
      omega
    by_cases h : (bits .xor .u64 (bits .and .u64 a2 (mk a1)) (IntKind.u64.wrap (2 ^ (a1.toNat - 1)))) ≤ (bits .xor .u64 (bits .and .u64 a3 (mk a1)) (IntKind.u64.wrap (2 ^ (a1.toNat - 1))))
    · exact law_of 41 a1 a2 a3 _ _ w (and_one a1 hk hk').symm (fun w => s_sle1 a1 a2 a3 hk hk' h w) (fun w => bo_fn 41 a1 a2 a3 (by omega) (by omega) hk hk' 29 rfl _ (cf 29 Try.f29 Try.func29 (by kernel_rfl) rfl) (fun w => c_sle1 a1 (bits .and .u64 a2 (mk a1)) (bits .and .u64 a3 (mk a1)) hk hk' (hq.2 h) w) w)
    · exact law_of 41 a1 a2 a3 _ _ w (and_zero a1 hk').symm (fun w => s_sle0 a1 a2 a3 hk hk' h w) (fun w => bo_fn 41 a1 a2 a3 (by omega) (by omega) hk hk' 29 rfl _ (cf 29 Try.f29 Try.func29 (by kernel_rfl) rfl) (fun w => c_sle0 a1 (bits .and .u64 a2 (mk a1)) (bits .and .u64 a3 (mk a1)) hk hk' (fun e => h (hq.1 e)) w) w)
  case neg =>
  refine law_of a0 a1 a2 a3 _ _ w (and_zero a1 hk') (fun w => s_other a0 a1 a2 a3 hk hk' h9 h25 h26 h27 h28 h29 h30 h31 h32 h33 h34 h35 h36 h37 h38 h39 h40 h41 w) (fun w => ?_)
  have hw : ∀ i, i < 42 → i ≠ 9 → i ≠ 25 → i ≠ 26 → i ≠ 27 → i ≠ 28 → i ≠ 29 → i ≠ 30 → i ≠ 31 → i ≠ 32 → i ≠ 33 → i ≠ 34 → i ≠ 35 → i ≠ 36 → i ≠ 37 → i ≠ 38 → i ≠ 39 → i ≠ 40 → i ≠ 41 → wk[i]? = some .nilFunc := by
    intro i hi g9 g25 g26 g27 g28 g29 g30 g31 g32 g33 g34 g35 g36 g37 g38 g39 g40 g41
    have : ∀ i : Fin 42, i.val ≠ 9 → i.val ≠ 25 → i.val ≠ 26 → i.val ≠ 27 → i.val ≠ 28 → i.val ≠ 29 → i.val ≠ 30 → i.val ≠ 31 → i.val ≠ 32 → i.val ≠ 33 → i.val ≠ 34 → i.val ≠ 35 → i.val ≠ 36 → i.val ≠ 37 → i.val ≠ 38 → i.val ≠ 39 → i.val ≠ 40 → i.val ≠ 41 → wk[i.val]? = some .nilFunc := by
      intro i g9 g25 g26 g27 g28 g29 g30 g31 g32 g33 g34 g35 g36 g37 g38 g39 g40 g41
      match i with
      | ⟨0, _⟩ => rfl
      | ⟨1, _⟩ => rfl
      | ⟨2, _⟩ => rfl
      | ⟨3, _⟩ => rfl
      | ⟨4, _⟩ => rfl
      | ⟨5, _⟩ => rfl
      | ⟨6, _⟩ => rfl
      | ⟨7, _⟩ => rfl
      | ⟨8, _⟩ => rfl
      | ⟨9, _⟩ => exact absurd rfl g9
      | ⟨10, _⟩ => rfl
      | ⟨11, _⟩ => rfl
      | ⟨12, _⟩ => rfl
      | ⟨13, _⟩ => rfl
      | ⟨14, _⟩ => rfl
      | ⟨15, _⟩ => rfl
      | ⟨16, _⟩ => rfl
      | ⟨17, _⟩ => rfl
      | ⟨18, _⟩ => rfl
      | ⟨19, _⟩ => rfl
      | ⟨20, _⟩ => rfl
      | ⟨21, _⟩ => rfl
      | ⟨22, _⟩ => rfl
      | ⟨23, _⟩ => rfl
      | ⟨24, _⟩ => rfl
      | ⟨25, _⟩ => exact absurd rfl g25
      | ⟨26, _⟩ => exact absurd rfl g26
      | ⟨27, _⟩ => exact absurd rfl g27
      | ⟨28, _⟩ => exact absurd rfl g28
      | ⟨29, _⟩ => exact absurd rfl g29
      | ⟨30, _⟩ => exact absurd rfl g30
      | ⟨31, _⟩ => exact absurd rfl g31
      | ⟨32, _⟩ => exact absurd rfl g32
      | ⟨33, _⟩ => exact absurd rfl g33
      | ⟨34, _⟩ => exact absurd rfl g34
      | ⟨35, _⟩ => exact absurd rfl g35
      | ⟨36, _⟩ => exact absurd rfl g36
      | ⟨37, _⟩ => exact absurd rfl g37
      | ⟨38, _⟩ => exact absurd rfl g38
      | ⟨39, _⟩ => exact absurd rfl g39
      | ⟨40, _⟩ => exact absurd rfl g40
      | ⟨41, _⟩ => exact absurd rfl g41
      | ⟨n + 42, h⟩ => omega
    exact this ⟨i, hi⟩ g9 g25 g26 g27 g28 g29 g30 g31 g32 g33 g34 g35 g36 g37 g38 g39 g40 g41
  exact bo_nil a0 a1 a2 a3 h0 h1 (hw a0.toNat (by omega) (by omega) (by omega) (by omega) (by omega) (by omega) (by omega) (by omega) (by omega) (by omega) (by omega) (by omega) (by omega) (by omega) (by omega) (by omega) (by omega) (by omega) (by omega)) w

set_option maxRecDepth 100000 in
theorem lifted (os : Os) (started : os.Started) (H : Type) (enc : TypeId × Value → H) :
    ReturnsInHanded {} Try.checked os 3 .any (Rows.fnExactBitsOpSpec.pre6 enc Try.prog Try.f3 Rows.fnExactBitsOpRow.domain false) (Rows.fnExactBitsOpSpec.post enc Try.prog Try.f3 false true false false) := by
  refine returnsInHanded_of_change (C := Try.checked) own started (by kernel_rfl) Try.func3
    (ChangeSpec.witness6 (enc := enc) (C := Try.checked) false ⟨#[], #[.int .i64 0, .int .i64 0, .int .u64 0, .int .u64 0], []⟩ 8 (by kernel_rfl) (by kernel_rfl) (by kernel_rfl) (by kernel_rfl)) ?_
  intro W base args ds gs before hval0 hW hcnd _
  have hval : ∀ (j : Nat) t v, Try.f3.params[j]? = some t → args[j]? = some v → Value.okWide Try.prog W .any base t v := hval0
  have hW' := hW
  obtain ⟨p, q, hA0, hV, rfl, hfz, hnd⟩ := hW
  have hA : DataW.TrodAll enc Try.prog W 0 (fun _ => true) true Try.f3.params.toList args.toList ds p := hA0
  rw [Try.params3] at hA hval
  obtain ⟨v0, vs0, d0, ds0, p0, q0, hargs, rfl, rfl, h0, r0⟩ := trodAll_cons hA
  obtain ⟨v1, vs1, d1, ds1, p1, q1, rfl, rfl, rfl, h1, r1⟩ := trodAll_cons r0
  obtain ⟨v2, vs2, d2, ds2, p2, q2, rfl, rfl, rfl, h2, r2⟩ := trodAll_cons r1
  obtain ⟨v3, vs3, d3, ds3, p3, q3, rfl, rfl, rfl, h3, r3⟩ := trodAll_cons r2
  obtain ⟨rfl, rfl, rfl⟩ := trodAll_nil r3
  obtain rfl : args = #[v0, v1, v2, v3] := by cases args; simp_all
  obtain ⟨rfl, rfl⟩ := trodVars_none hV
  obtain ⟨a0, rfl, rfl, rfl, w0⟩ := open_int Try.underlying3 (hval 0 3 v0 rfl rfl) h0
  obtain ⟨a1, rfl, rfl, rfl, w1⟩ := open_int Try.underlying3 (hval 1 3 v1 rfl rfl) h1
  obtain ⟨a2, rfl, rfl, rfl, w2⟩ := open_int Try.underlying22 (hval 2 22 v2 rfl rfl) h2
  obtain ⟨a3, rfl, rfl, rfl, w3⟩ := open_int Try.underlying22 (hval 3 22 v3 rfl rfl) h3
  clear hA0 hval0
  simp only [List.append_nil] at hW'
  refine (walk a0 a1 a2 a3 w0 w1 w2 w3 W).mono fun e W' ⟨he, hg⟩ => ?_
  subst he
  exact ⟨_, rfl, post_of_same (pa := []) (pv := []) hW' (fun _ _ _ => (trodAll_cons_mk (shut_bool Try.underlying4 _) trodAll_mk0)) (fun sp _ => (trodAll_cons_mk (shut_int Try.underlying3 w0) (trodAll_cons_mk (shut_int Try.underlying3 w1) (trodAll_cons_mk (shut_int Try.underlying22 w2) (trodAll_cons_mk (shut_int Try.underlying22 w3) trodAll_mk0))))) (fun _ _ => rfl) rfl
    (hg.frame _) hg.2.1 (ok_one (by kernel_rfl) rfl (okWide_bool_mk Try.underlying4 _))⟩

theorem over : Rows.fnExactBitsOpRow.holds Try.pinned (OpenSpec.ofChange Rows.fnExactBitsOpSpec) :=
  OpenClaim.holds_of_wide 3 Try.f3 rfl rfl rfl rfl rfl rfl rfl ⟨rfl, rfl, rfl, rfl, rfl⟩ rfl rfl rfl rfl rfl (by kernel_rfl) Try.func3 (by kernel_rfl)
    (of_decide_eq_true (by kernel_rfl)) (by unfold Func.isWrapper; first | (rw [if_pos (by decide +kernel)]; kernel_rfl) | (rw [if_neg (by decide +kernel)]; exact ⟨rfl, rfl⟩))
    (fun os started H enc _ => lifted os started H enc)

theorem proved : Rows.FnExactBitsOpSaid :=
  over
#print axioms proved
end Go.Proofs.Ythhckkcbllcfcaa.fnExactBitsOp
namespace Go.Proofs.Ythhckkcbllcfcaa
theorem fnExactBitsOp_holds : Rows.FnExactBitsOpSaid := fnExactBitsOp.proved
end Go.Proofs.Ythhckkcbllcfcaa

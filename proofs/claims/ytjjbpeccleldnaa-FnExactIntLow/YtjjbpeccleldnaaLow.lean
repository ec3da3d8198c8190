import Derived.Test.YtjjbpeccleldnaaReadSpec
namespace Go.Proofs.Ytjjbpeccleldnaa
open Go.ChangeShapes Go.WideShapes Go.ChangeAt Go.RowKit
def m64 (n : Nat) : Int := IntKind.u64.wrap (n : Int)
theorem u64_wrap (n : Int) : IntKind.u64.wrap n = n % 18446744073709551616 := rfl
theorem m64_step (q y : Nat) : IntKind.u64.wrap (IntKind.u64.wrap (m64 q * 1000000000) + y) = m64 (q * 1000000000 + y) := by
  unfold m64
  simp only [u64_wrap]
  omega
theorem m64_zero : m64 0 = 0 := rfl
def wordR (neg : Bool) (n : Nat) : Int := if neg then IntKind.u64.wrap (-m64 n) else m64 n
def maskS (k : Int) : Int := IntKind.u64.wrap (IntKind.u64.wrap (2 ^ k.toNat) - 1)
def lowS (neg : Bool) (n : Nat) (k : Int) : Int := if k < 64 then bits .and .u64 (wordR neg n) (maskS k) else wordR neg n
theorem ret_u64 {a b : Int} (h : a = b) : Ending.returned (.int .u64 a) = .returned (.int .u64 b) := by rw [h]
theorem okL_getD (t : List Nat) (h : okL t) (i : Nat) (hi : i < t.length) : t.getD i 0 < 1000000000 := by
  rw [List.getD_eq_getElem?_getD, List.getElem?_eq_getElem hi]
  exact h _ (List.getElem_mem _)
set_option maxRecDepth 100000 in
set_option maxHeartbeats 1000000 in
theorem l1Low_any (B : Nat) (z : Value) (neg : Bool) (t : List Nat) (k : Int) (w : World) (h : IsZ B w z neg t) (hB : B ≤ w.heap.size) (hk1 : 1 ≤ k) (hk2 : k ≤ 64) :
    Calls Try.prog 10 #[z, .int .i64 k] w fun e w' => e = .returned (.int .u64 (lowS (negOf neg t) (val t) k)) ∧ Below w.heap.size w w' := by
  obtain ⟨z0, zn, za, zl, zc, hzz⟩ := h.shape
  subst hzz
  have HZ : Hid (∀ o, IsZ B (w.alloc o) (.agg #[.int .i64 z0, .bool zn, .slice za zl zc]) neg t) := fun o => h.below (below_alloc w o)
  clear h
  go_enter Try.func10, Try.ntmps10
  go_wp2_with fail
  refine (l1Limbs_any B _ neg t _ (HZ.out _) ?_).mono ?_
  · simp; omega
  rintro e w1 ⟨v, rfl, hv, hb1⟩
  have hsz : (w.alloc (.cells #[.int .i64 z0, .bool zn, .slice za zl zc] 30)).heap.size = w.heap.size + 1 := by simp
  rw [hsz] at hb1
  have HZ1 : Hid (IsZ B w1 (.agg #[.int .i64 z0, .bool zn, .slice za zl zc]) neg t) := (HZ.out _).below (by rw [hsz]; exact hb1)
  have hc0 : w1.cell? ⟨w.heap.size, 0, none⟩ = some (.int .i64 z0) := by
    rw [hb1.cell (p := ⟨w.heap.size, 0, none⟩) (Nat.lt_succ_self _), World.cell?_alloc_at _ _ _ _ rfl]; rfl
  have hc1 : w1.cell? ⟨w.heap.size, 1, none⟩ = some (.bool zn) := by
    rw [hb1.cell (p := ⟨w.heap.size, 1, none⟩) (Nat.lt_succ_self _), World.cell?_alloc_at _ _ _ _ rfl]; rfl
  have hc2 : w1.cell? ⟨w.heap.size, 2, none⟩ = some (.slice za zl zc) := by
    rw [hb1.cell (p := ⟨w.heap.size, 2, none⟩) (Nat.lt_succ_self _), World.cell?_alloc_at _ _ _ _ rfl]; rfl
  have HB1 : Hid (Below w.heap.size w w1) := (below_alloc w _).trans (hb1.mono (Nat.le_succ _))
  clear hb1 hsz
  obtain ⟨a, cap, rfl, hl, hcap, hok, hr⟩ := hv
  unfold maxLen at hcap
  have HC : Hid (∀ i, i < t.length → ∃ b off, a = some ⟨b, off, none⟩ ∧ b < w1.heap.size ∧ w1.cell? ⟨b, off + i, none⟩ = some (.int .u32 (t.getD i 0 : Nat))) := fun i hi => by
    rcases hr with rfl | ⟨b, off, rfl, _, hb, hc⟩
    · simp at hi
    · exact ⟨b, off, rfl, hb, hc i hi⟩
  clear hr
  go_wp2_with fail
  go_loop [6, 7] (fun n i => ∃ j : Nat, j ≤ t.length ∧ i = .int .i64 (j - 1) ∧ n = .int .u64 (m64 (vfrom t j))) (fun _ i => (intOf i + 1).toNat)
  case atStart => exact ⟨t.length, Nat.le_refl _, rfl, by rw [vfrom_end, m64_zero]⟩
  case round =>
    obtain ⟨j, hj, rfl, rfl⟩ := hrel
    cases j with
    | zero =>
      obtain ⟨q, hq⟩ : ∃ q, m64 (vfrom t 0) = q := ⟨_, rfl⟩
      have HQ : Hid (m64 (val t) = q) := hq
      rw [hq]
      clear hq
      obtain ⟨ng, hng⟩ : ∃ ng, negOf neg t = ng := ⟨_, rfl⟩
      have HNG : Hid (negOf neg t = ng) := hng
      clear hng
      go_wp2_with fail
      refine (l1Neg_any B _ neg t _ HZ1.out).mono ?_
      rintro e w2 ⟨rfl, hb2⟩
      have HB2 : Hid (Below w.heap.size w w2) := HB1.out.trans (hb2.mono HB1.out.size)
      clear hb2
      rw [HNG.out]
      by_cases hk : k < 64
      · have HR : Hid (lowS ng (val t) k = bits .and .u64 (wordR ng (val t)) (IntKind.u64.wrap (IntKind.u64.wrap (2 ^ k.toNat) - 1))) := if_pos hk
        cases ng
        all_goals
          go_wp2
          go_ret
          exact ⟨ret_u64 (by rw [HNG.out, HR.out]; unfold wordR; rw [HQ.out]; rfl), HB2.out⟩
      · have HR : Hid (lowS ng (val t) k = wordR ng (val t)) := if_neg hk
        cases ng
        all_goals
          go_wp2
          go_ret
          exact ⟨ret_u64 (by rw [HNG.out, HR.out]; unfold wordR; rw [HQ.out]; rfl), HB2.out⟩
    | succ i =>
      have HS : Hid (vfrom t i = vfrom t (i + 1) * 1000000000 + t.getD i 0) := vfrom_step t i (by omega)
      have hyb := okL_getD t hok i (by omega)
      obtain ⟨b, off, rfl, hb, hcell⟩ := HC.out i (by omega)
      obtain ⟨y, hy⟩ : ∃ y, t.getD i 0 = y := ⟨_, rfl⟩
      rw [hy] at hcell hyb HS
      clear hy
      go_wp2
      go_round
      case rel => exact ⟨i, by omega, val_int (by omega), by rw [HS.out, ← m64_step]⟩
      case measure => simp [intOf]
end Go.Proofs.Ytjjbpeccleldnaa

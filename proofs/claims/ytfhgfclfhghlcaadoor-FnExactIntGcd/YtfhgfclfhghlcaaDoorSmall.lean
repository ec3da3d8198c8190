import Derived.Test.YtfhgfclfhghlcaaDoorOfSpec
namespace Go.Proofs.YtfhgfclfhghlcaaDoor
open Go.ChangeShapes Go.WideShapes Go.ChangeAt Go.RowKit
/-- A whole number in the specification's memory, by its value, of at most n limbs. -/
def NumZ (B : Nat) (w : World) (z : Value) (x : Int) (n : Nat) : Prop := ∃ neg t, IsZ B w z neg t ∧ sg neg (val t) = x ∧ t.length ≤ n
theorem NumZ.below {B : Nat} {w w' : World} {z : Value} {x : Int} {n : Nat} (h : NumZ B w z x n) (hb : Below w.heap.size w w') : NumZ B w' z x n := by
  obtain ⟨neg, t, h1, h2⟩ := h
  exact ⟨neg, t, h1.below hb, h2⟩
theorem NumZ.mono {B B' : Nat} {w : World} {z : Value} {x : Int} {n : Nat} (h : NumZ B w z x n) (hb : B' ≤ B) : NumZ B' w z x n := by
  obtain ⟨neg, t, h1, h2⟩ := h
  exact ⟨neg, t, h1.mono hb, h2⟩
/-- The limbs of a number below a thousand million squared. -/
def two (n : Nat) : List Nat := trimL [n % 1000000000, n / 1000000000]
theorem two_ok (n : Nat) (h : n < 1000000000000000000) : okL (two n) := trimL_ok _ fun x hx => by
  simp at hx
  rcases hx with rfl | rfl <;> omega
theorem two_trim (n : Nat) : isTrim (two n) := trimL_trim _
theorem two_val (n : Nat) : val (two n) = n := by
  unfold two
  rw [val_trimL]
  simp only [val]
  omega
theorem two_len (n : Nat) : (two n).length ≤ 2 := by
  have := trimL_len [n % 1000000000, n / 1000000000]
  simpa [two] using this
set_option maxRecDepth 100000 in
set_option maxHeartbeats 1000000 in
theorem l1Small_any (x : Int) (w : World) (h1 : -2000000000000000000 < x) (h2 : x < 2000000000000000000) :
    Calls Tryd.prog 48 #[.int .i64 x] w fun e w' => ∃ z, e = .returned z ∧ NumZ w.heap.size w' z x 3 ∧ Below w.heap.size w w' := by
  by_cases hs : x < 1000000000000000000 ∧ -1000000000000000000 < x
  · obtain ⟨s1, s2⟩ := hs
    go_enter Tryd.func48, Tryd.ntmps48
    go_wp2
    have e0 : sg (decide (x < 0)) (val (two x.natAbs)) = x := by
      rw [two_val]
      unfold sg
      by_cases h : x < 0 <;> simp [h] <;> omega
    refine bodyPost_ret (v := .agg #[.int .i64 x, .bool false, .slice none 0 0]) ?_ rfl ⟨_, rfl, ⟨decide (x < 0), two x.natAbs, ⟨two_ok _ (by omega), two_trim _, .inr ⟨two_len _, ?_⟩⟩, e0, Nat.le_trans (two_len _) (by omega)⟩, ?_⟩
    · simp [results, Tryd.results48, go_sem]
    · rw [e0]
    · exact below_alloc _ _
  · obtain ⟨n, hn⟩ : ∃ n : Nat, x.natAbs = n := ⟨_, rfl⟩
    obtain ⟨u, hu⟩ : ∃ u : Int, (n : Int) = u := ⟨_, rfl⟩
    have HT : Hid (okL [n % 1000000000, n / 1000000000 % 1000000000, n / 1000000000 / 1000000000] ∧ isTrim [n % 1000000000, n / 1000000000 % 1000000000, n / 1000000000 / 1000000000] ∧ sg (decide (x < 0)) (val [n % 1000000000, n / 1000000000 % 1000000000, n / 1000000000 / 1000000000]) = x) := by
      refine ⟨fun y hy => by simp at hy; omega, fun _ => by simp; omega, ?_⟩
      have : val [n % 1000000000, n / 1000000000 % 1000000000, n / 1000000000 / 1000000000] = n := by simp only [val]; omega
      rw [this]
      unfold sg
      by_cases h : x < 0 <;> simp [h] <;> omega
    have HL : Hid (∀ W : World, IsL (W.heap.size) (W.alloc (.cells #[.int .u32 (u % 1000000000), .int .u32 (u / 1000000000 % 1000000000), .int .u32 (u / 1000000000 / 1000000000)] 60)) (.slice (some ⟨W.heap.size, 0, none⟩) 3 3) [n % 1000000000, n / 1000000000 % 1000000000, n / 1000000000 / 1000000000]) := fun W =>
      isL_three _ _ _ _ _ _ (by omega) (by omega) (by omega) (by omega) (by omega) (by omega) rfl (Nat.le_refl _)
    obtain ⟨L, hL⟩ : ∃ L, [n % 1000000000, n / 1000000000 % 1000000000, n / 1000000000 / 1000000000] = L := ⟨_, rfl⟩
    have hlen : L.length = 3 := by rw [← hL]; rfl
    rw [hL] at HT HL
    clear hL
    have u2 : u < 2000000000000000000 := by omega
    have u1 : 1000000000000000000 ≤ u := by omega
    by_cases hneg : x < 0
    · obtain rfl : x = -u := by omega
      have hd : decide (-u < 0) = true := decide_eq_true hneg
      rw [hd] at HT
      clear hu hn hd hs
      go_enter Tryd.func48, Tryd.ntmps48
      go_wp2
      have hl := HL.out (w.alloc (.cells #[.int .i64 0, .bool true, .slice (some ⟨w.heap.size + 1, 0, none⟩) 3 3] 34))
      have hsz : (w.alloc (.cells #[.int .i64 0, .bool true, .slice (some ⟨w.heap.size + 1, 0, none⟩) 3 3] 34)).heap.size = w.heap.size + 1 := by simp
      rw [hsz] at hl
      refine bodyPost_ret (v := .agg #[.int .i64 0, .bool true, .slice (some ⟨w.heap.size + 1, 0, none⟩) 3 3]) ?_ rfl ⟨_, rfl, ⟨true, L, IsZ.mono (B := w.heap.size + 1) ⟨HT.out.1, HT.out.2.1, .inl ⟨by omega, _, rfl, hl⟩⟩ (Nat.le_succ _), HT.out.2.2, by omega⟩, below_al (below_alloc _ _) _⟩
      simp [results, Tryd.results48, go_sem]
    · obtain rfl : x = u := by omega
      have hd : decide (x < 0) = false := decide_eq_false hneg
      rw [hd] at HT
      clear hu hn hd hs
      go_enter Tryd.func48, Tryd.ntmps48
      go_wp2
      have hl := HL.out (w.alloc (.cells #[.int .i64 0, .bool false, .slice (some ⟨w.heap.size + 1, 0, none⟩) 3 3] 34))
      have hsz : (w.alloc (.cells #[.int .i64 0, .bool false, .slice (some ⟨w.heap.size + 1, 0, none⟩) 3 3] 34)).heap.size = w.heap.size + 1 := by simp
      rw [hsz] at hl
      refine bodyPost_ret (v := .agg #[.int .i64 0, .bool false, .slice (some ⟨w.heap.size + 1, 0, none⟩) 3 3]) ?_ rfl ⟨_, rfl, ⟨false, L, IsZ.mono (B := w.heap.size + 1) ⟨HT.out.1, HT.out.2.1, .inl ⟨by omega, _, rfl, hl⟩⟩ (Nat.le_succ _), HT.out.2.2, by omega⟩, below_al (below_alloc _ _) _⟩
      simp [results, Tryd.results48, go_sem]
end Go.Proofs.YtfhgfclfhghlcaaDoor

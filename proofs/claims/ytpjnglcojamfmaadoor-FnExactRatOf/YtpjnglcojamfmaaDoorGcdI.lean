import Derived.Test.YtpjnglcojamfmaaDoorM1
import Derived.Test.YtpjnglcojamfmaaDoorM4
import Derived.Test.YtpjnglcojamfmaaDoorM2
import Derived.Test.YtpjnglcojamfmaaDoorBack
import Derived.Test.YtpjnglcojamfmaaDoorReadSpec
import Derived.Deep.QuietTactic
import Derived.BigQuiet
import Derived.WalkSmall
import Derived.IntWalk
import Derived.Deep.DeepCutAuto
import Derived.Test.YtpjnglcojamfmaaDoorM6
import Derived.Test.YtpjnglcojamfmaaDoorOfImpl
import Derived.Test.YtpjnglcojamfmaaDoorMulLimbs
import Derived.Test.YtpjnglcojamfmaaDoorDivA
import Derived.Deep.LoopGhost
import Derived.Laws.StructEq
import Derived.Laws.Tables
import Derived.Test.YtpjnglcojamfmaaDoorSumT
import Derived.Test.YtpjnglcojamfmaaDoorDivC
namespace Go.Proofs.YtpjnglcojamfmaaDoor
open Go.ChangeShapes Go.WideShapes Go.ChangeAt Go.RowKit
/-- A block that holds just these cells, and may be written. -/
def Bx (W : World) (g : Nat) (l : List Value) : Prop := ∃ ty, W.heap[g]? = some (.cells l.toArray ty (0, 0))
theorem Bx.lt {W : World} {g : Nat} {l : List Value} (h : Bx W g l) : g < W.heap.size := by
  obtain ⟨t, h⟩ := h
  exact (Array.getElem?_eq_some_iff.1 h).1
theorem Bx.cell {W : World} {g : Nat} {l : List Value} (h : Bx W g l) (i : Nat) : W.cell? ⟨g, i, none⟩ = l[i]? := by
  obtain ⟨t, h⟩ := h
  simp [World.cell?, h]
theorem Bx.frozen {W : World} {g : Nat} {l : List Value} (h : Bx W g l) (i : Nat) : W.frozen? ⟨g, i, none⟩ = false := by
  obtain ⟨t, h⟩ := h
  simp [World.frozen?, h]
theorem Bx.set {W : World} {g : Nat} {l : List Value} (h : Bx W g l) (i : Nat) (v : Value) : Bx (W.setCell ⟨g, i, none⟩ v) g (l.set i v) := by
  obtain ⟨t, h⟩ := h
  refine ⟨t, ?_⟩
  obtain ⟨hlt, hk⟩ := Array.getElem?_eq_some_iff.1 h
  show (W.heap.modify g _)[g]? = _
  rw [Array.getElem?_eq_getElem (by rw [Array.size_modify]; exact hlt), Array.getElem_modify_self, hk]
  simp
theorem Bx.other {W : World} {g : Nat} {l : List Value} (h : Bx W g l) (p : Addr) (hp : p.block ≠ g) (v : Value) : Bx (W.setCell p v) g l := by
  obtain ⟨t, h⟩ := h
  exact ⟨t, (Below.heap_setCell W p v g (fun e => hp e.symm)).trans h⟩
theorem Bx.below {W W' : World} {g N : Nat} {l : List Value} (h : Bx W g l) (hN : g < N) (hb : Below N W W') : Bx W' g l := by
  obtain ⟨t, h⟩ := h
  exact ⟨t, (hb.block g hN).trans h⟩
theorem Bx.alloc {W : World} {g : Nat} {l : List Value} (h : Bx W g l) (o : Obj) : Bx (W.alloc o) g l := h.below h.lt (below_alloc W o)
theorem Bx.drew {W : World} {g : Nat} {l : List Value} (h : Bx W g l) : Bx W.drew g l := h.below h.lt (Below.refl _ W).drew
theorem bx_new (W : World) (l : List Value) (ty : TypeId) : Bx (W.alloc (.cells l.toArray ty)) W.heap.size l := ⟨ty, Array.getElem?_push_size⟩
end Go.Proofs.YtpjnglcojamfmaaDoor
namespace Go.Proofs.YtpjnglcojamfmaaDoor
open Go.ChangeShapes Go.WideShapes Go.ChangeAt Go.RowKit
set_option maxRecDepth 100000 in
set_option maxHeartbeats 1000000 in
theorem limbAt_any (B : Nat) (v : Value) (l : List Nat) (i : Nat) (w : World) (h : IsL B w v l) (_hi : i ≤ 1000000) :
    Calls Tryd.prog 86 #[v, .int .i64 (i : Nat)] w fun e w' => e = .returned (.int .i64 (l.getD i 0 : Nat)) ∧ w' = w := by
  obtain ⟨p, c, rfl, _⟩ := id h
  obtain ⟨_, _, _, hok, hc⟩ := h.cells
  by_cases hl : i < l.length
  · obtain ⟨b, off, rfl, hb, hcell⟩ := hc i hl
    have hx := okL_getD l hok i hl
    obtain ⟨x, hx'⟩ : ∃ x, l.getD i 0 = x := ⟨_, rfl⟩
    rw [hx'] at hcell hx ⊢
    clear hx' hc h
    go_enter Tryd.func86, Tryd.ntmps86
    go_wp2
    go_ret
    exact ⟨rfl, rfl⟩
  · have e : l.getD i 0 = 0 := by rw [List.getD_eq_getElem?_getD, List.getElem?_eq_none (by omega)]; rfl
    rw [e]
    clear e hc h
    go_enter Tryd.func86, Tryd.ntmps86
    go_wp2
    go_ret
    exact ⟨rfl, rfl⟩
end Go.Proofs.YtpjnglcojamfmaaDoor
namespace Go.Proofs.YtpjnglcojamfmaaDoor
theorem sq_lt (n : Nat) (M : Nat) (h : n * n < M * M) : n < M := by
  rcases Nat.lt_or_ge n M with h1 | h1
  · exact h1
  · exact absurd h (Nat.not_lt.2 (Nat.mul_le_mul h1 h1))
/-- The state of the steps on leading words: the factors without their signs. -/
structure LSt (x0 y0 : Nat) (s : Bool) (p q r t x y : Nat) : Prop where
  ex : x0 = t * x + q * y
  ey : y0 = r * x + p * y
  det : if s then p * t = q * r + 1 else q * r = p * t + 1
  low : if s then q ≤ x ∧ r ≤ y else p ≤ x ∧ t ≤ y
  bp : p < 1000000000
  bq : q < 1000000000
  br : r < 1000000000
  bt : t < 1000000000
  le : y ≤ x
  go : (s = true ∧ p = 1 ∧ q = 0 ∧ r = 0 ∧ t = 1) ∨ (1 ≤ r ∧ (if s then y + t + q < x else y + r + p < x))
theorem lst_init (x0 y0 : Nat) (h : y0 ≤ x0) : LSt x0 y0 true 1 0 0 1 x0 y0 :=
  ⟨by omega, by omega, by simp, by simp, by omega, by omega, by omega, by omega, h, .inl ⟨rfl, rfl, rfl, rfl, rfl⟩⟩
theorem mul_lt_of (m y x0 : Nat) (h : m * y ≤ x0) (h1 : m ≤ y) (hx : x0 < 1000000000000000000) : m < 1000000000 := by
  have h2 : m * m ≤ m * y := Nat.mul_le_mul_left m h1
  exact sq_lt m 1000000000 (by omega)
/-- One step, plus to minus. k is the quotient of both ends. -/
theorem lst_plus (x0 y0 p q r t x y k : Nat) (h : LSt x0 y0 true p q r t x y) (hx0 : x0 < 1000000000000000000) (hle : y0 ≤ x0) (hy : r < y)
    (k1 : k * (y - r) ≤ x + p) (k2 : x + p < k * (y - r) + (y - r)) (k3 : k * (y + t) ≤ x - q) (k4 : x - q < k * (y + t) + (y + t)) :
    k * y ≤ x ∧ LSt x0 y0 false r t (p + k * r) (q + k * t) y (x - k * y) := by
  obtain ⟨ex, ey, det, low, bp, bq, br, bt, le, go⟩ := h
  simp only [if_true] at det low go
  obtain ⟨l1, l2⟩ := low
  have e1 : k * (y - r) + k * r = k * y := by rw [← Nat.mul_add, Nat.sub_add_cancel l2]
  have e2 : k * (y + t) = k * y + k * t := Nat.mul_add _ _ _
  obtain ⟨z, hz⟩ : ∃ z, x = k * y + z := ⟨x - k * y, by omega⟩
  have hzz : x - k * y = z := by omega
  have f1 : x0 = (q + k * t) * y + t * z := by rw [ex, hz]; grind
  have f2 : y0 = (p + k * r) * y + r * z := by rw [ey, hz]; grind
  have g1 : q + k * t ≤ z := by omega
  have g2 : z + (p + k * r) + r < y := by omega
  have hr1 : 1 ≤ p + k * r := by
    rcases go with ⟨_, hp, _⟩ | ⟨hr, hg⟩
    · omega
    · have : 1 ≤ k := by
        rcases Nat.eq_zero_or_pos k with rfl | hk
        · simp at k4; omega
        · exact hk
      have := Nat.mul_le_mul this hr
      omega
  rw [hzz]
  refine ⟨by omega, f1, f2, ?_, ?_, br, bt, ?_, ?_, by omega, .inr ⟨hr1, ?_⟩⟩
  · simp only [Bool.false_eq_true, if_false]; grind
  · simp only [Bool.false_eq_true, if_false]; omega
  · exact mul_lt_of (p + k * r) y y0 (by omega) (by omega) (by omega)
  · exact mul_lt_of (q + k * t) y x0 (by omega) (by omega) (by omega)
  · simp only [Bool.false_eq_true, if_false]; omega
/-- One step, minus to plus. -/
theorem lst_minus (x0 y0 p q r t x y k : Nat) (h : LSt x0 y0 false p q r t x y) (hx0 : x0 < 1000000000000000000) (hle : y0 ≤ x0) (hy : t < y)
    (k1 : k * (y + r) ≤ x - p) (k2 : x - p < k * (y + r) + (y + r)) (k3 : k * (y - t) ≤ x + q) (k4 : x + q < k * (y - t) + (y - t)) :
    k * y ≤ x ∧ LSt x0 y0 true r t (p + k * r) (q + k * t) y (x - k * y) := by
  obtain ⟨ex, ey, det, low, bp, bq, br, bt, le, go⟩ := h
  simp only [Bool.false_eq_true, if_false] at det low go
  obtain ⟨l1, l2⟩ := low
  have e1 : k * (y - t) + k * t = k * y := by rw [← Nat.mul_add, Nat.sub_add_cancel l2]
  have e2 : k * (y + r) = k * y + k * r := Nat.mul_add _ _ _
  obtain ⟨z, hz⟩ : ∃ z, x = k * y + z := ⟨x - k * y, by omega⟩
  have hzz : x - k * y = z := by omega
  have f1 : x0 = (q + k * t) * y + t * z := by rw [ex, hz]; grind
  have f2 : y0 = (p + k * r) * y + r * z := by rw [ey, hz]; grind
  have g1 : p + k * r ≤ z := by omega
  have g2 : z + (q + k * t) + t < y := by omega
  have hr1 : 1 ≤ p + k * r := by
    rcases go with ⟨h, _⟩ | ⟨hr, hg⟩
    · cases h
    · have : 1 ≤ k := by
        rcases Nat.eq_zero_or_pos k with rfl | hk
        · simp at k2; omega
        · exact hk
      have := Nat.mul_le_mul this hr
      omega
  rw [hzz]
  refine ⟨by omega, f1, f2, ?_, ?_, br, bt, ?_, ?_, by omega, .inr ⟨hr1, ?_⟩⟩
  · simp only [if_true]; grind
  · simp only [if_true]; omega
  · exact mul_lt_of (p + k * r) y y0 (by omega) (by omega) (by omega)
  · exact mul_lt_of (q + k * t) y x0 (by omega) (by omega) (by omega)
  · simp only [if_true]; omega
def sgF (s : Bool) (n : Nat) : Int := if s then (n : Int) else -(n : Int)
/-- What the steps make of the whole numbers. -/
def MadeG (A B C D : Int) (a b : Nat) : Prop := ∃ a1 b1 : Nat, A * a + B * b = a1 ∧ C * a + D * b = b1 ∧ Nat.gcd a1 b1 = Nat.gcd a b ∧ b1 < a1 ∧ a1 ≤ b
theorem gcd_of (a b a1 b1 p q r t : Nat) (h1 : a = t * a1 + q * b1) (h2 : b = r * a1 + p * b1) (h3 : Nat.gcd a b ∣ a1) (h4 : Nat.gcd a b ∣ b1) : Nat.gcd a1 b1 = Nat.gcd a b := by
  apply Nat.dvd_antisymm
  · apply Nat.dvd_gcd
    · rw [h1]; exact Nat.dvd_add (Nat.dvd_mul_left_of_dvd (Nat.gcd_dvd_left _ _) _) (Nat.dvd_mul_left_of_dvd (Nat.gcd_dvd_right _ _) _)
    · rw [h2]; exact Nat.dvd_add (Nat.dvd_mul_left_of_dvd (Nat.gcd_dvd_left _ _) _) (Nat.dvd_mul_left_of_dvd (Nat.gcd_dvd_right _ _) _)
  · exact Nat.dvd_gcd h3 h4
theorem gmade_plus (x0 y0 p q r t x y S a b a' b' : Nat) (h : LSt x0 y0 true p q r t x y) (hg : 1 ≤ r ∧ y + t + q < x) (ha : a = x0 * S + a') (hb : b = y0 * S + b') (ha' : a' < S) (hb' : b' < S) :
    MadeG p (-q) (-r) t a b := by
  obtain ⟨ex, ey, det, low, bp, bq, br, bt, le, go⟩ := h
  simp only [if_true] at det low
  have e1 : p * x0 = q * y0 + x := by rw [ex, ey]; grind
  have e2 : t * y0 = r * x0 + y := by rw [ex, ey]; grind
  have d1 : p * a = q * (y0 * S) + x * S + p * a' := by rw [ha, Nat.mul_add, ← Nat.mul_assoc, e1]; grind
  have d2 : q * b = q * (y0 * S) + q * b' := by rw [hb]; grind
  have d3 : t * b = r * (x0 * S) + y * S + t * b' := by rw [hb, Nat.mul_add, ← Nat.mul_assoc, e2]; grind
  have d4 : r * a = r * (x0 * S) + r * a' := by rw [ha]; grind
  have m1 : q * b' ≤ q * S := Nat.mul_le_mul_left _ (by omega)
  have m2 : r * a' ≤ r * S := Nat.mul_le_mul_left _ (by omega)
  have m3 : t * b' ≤ t * S := Nat.mul_le_mul_left _ (by omega)
  have m4 : (y + t + q + 1) * S ≤ x * S := Nat.mul_le_mul_right _ (by omega)
  have m5 : r * S ≤ y * S := Nat.mul_le_mul_right _ low.2
  have m6 : (y + t + q + 1) * S = y * S + t * S + q * S + S := by grind
  obtain ⟨a1, h1⟩ : ∃ a1, p * a = q * b + a1 := ⟨x * S + p * a' - q * b', by omega⟩
  obtain ⟨b1, h2⟩ : ∃ b1, t * b = r * a + b1 := ⟨y * S + t * b' - r * a', by omega⟩
  have i1 : (a : Int) = t * a1 + q * b1 := by
    have z1 : (p : Int) * a = q * b + a1 := by exact_mod_cast h1
    have z2 : (t : Int) * b = r * a + b1 := by exact_mod_cast h2
    have z3 : (p : Int) * t = q * r + 1 := by exact_mod_cast det
    grind
  have i2 : (b : Int) = r * a1 + p * b1 := by
    have z1 : (p : Int) * a = q * b + a1 := by exact_mod_cast h1
    have z2 : (t : Int) * b = r * a + b1 := by exact_mod_cast h2
    have z3 : (p : Int) * t = q * r + 1 := by exact_mod_cast det
    grind
  have j1 : a = t * a1 + q * b1 := by exact_mod_cast i1
  have j2 : b = r * a1 + p * b1 := by exact_mod_cast i2
  have ga := Nat.gcd_dvd_left a b
  have gb := Nat.gcd_dvd_right a b
  refine ⟨a1, b1, ?_, ?_, gcd_of a b a1 b1 p q r t j1 j2 ?_ ?_, by omega, ?_⟩
  · have z1 : (p : Int) * a = q * b + a1 := by exact_mod_cast h1
    grind
  · have z2 : (t : Int) * b = r * a + b1 := by exact_mod_cast h2
    grind
  · exact (Nat.dvd_add_right (Nat.dvd_mul_left_of_dvd gb q)).1 (h1 ▸ Nat.dvd_mul_left_of_dvd ga p)
  · exact (Nat.dvd_add_right (Nat.dvd_mul_left_of_dvd ga r)).1 (h2 ▸ Nat.dvd_mul_left_of_dvd gb t)
  · have := Nat.mul_le_mul_right a1 hg.1
    omega
theorem gmade_minus (x0 y0 p q r t x y S a b a' b' : Nat) (h : LSt x0 y0 false p q r t x y) (hg : 1 ≤ r ∧ y + r + p < x) (ha : a = x0 * S + a') (hb : b = y0 * S + b') (ha' : a' < S) (hb' : b' < S) :
    MadeG (-p) q r (-t) a b := by
  obtain ⟨ex, ey, det, low, bp, bq, br, bt, le, go⟩ := h
  simp only [Bool.false_eq_true, if_false] at det low
  have e1 : q * y0 = p * x0 + x := by rw [ex, ey]; grind
  have e2 : r * x0 = t * y0 + y := by rw [ex, ey]; grind
  have d1 : q * b = p * (x0 * S) + x * S + q * b' := by rw [hb, Nat.mul_add, ← Nat.mul_assoc, e1]; grind
  have d2 : p * a = p * (x0 * S) + p * a' := by rw [ha]; grind
  have d3 : r * a = t * (y0 * S) + y * S + r * a' := by rw [ha, Nat.mul_add, ← Nat.mul_assoc, e2]; grind
  have d4 : t * b = t * (y0 * S) + t * b' := by rw [hb]; grind
  have m1 : p * a' ≤ p * S := Nat.mul_le_mul_left _ (by omega)
  have m2 : t * b' ≤ t * S := Nat.mul_le_mul_left _ (by omega)
  have m3 : r * a' ≤ r * S := Nat.mul_le_mul_left _ (by omega)
  have m4 : (y + r + p + 1) * S ≤ x * S := Nat.mul_le_mul_right _ (by omega)
  have m5 : t * S ≤ y * S := Nat.mul_le_mul_right _ low.2
  have m6 : (y + r + p + 1) * S = y * S + r * S + p * S + S := by grind
  obtain ⟨a1, h1⟩ : ∃ a1, q * b = p * a + a1 := ⟨x * S + q * b' - p * a', by omega⟩
  obtain ⟨b1, h2⟩ : ∃ b1, r * a = t * b + b1 := ⟨y * S + r * a' - t * b', by omega⟩
  have i1 : (a : Int) = t * a1 + q * b1 := by
    have z1 : (q : Int) * b = p * a + a1 := by exact_mod_cast h1
    have z2 : (r : Int) * a = t * b + b1 := by exact_mod_cast h2
    have z3 : (q : Int) * r = p * t + 1 := by exact_mod_cast det
    grind
  have i2 : (b : Int) = r * a1 + p * b1 := by
    have z1 : (q : Int) * b = p * a + a1 := by exact_mod_cast h1
    have z2 : (r : Int) * a = t * b + b1 := by exact_mod_cast h2
    have z3 : (q : Int) * r = p * t + 1 := by exact_mod_cast det
    grind
  have j1 : a = t * a1 + q * b1 := by exact_mod_cast i1
  have j2 : b = r * a1 + p * b1 := by exact_mod_cast i2
  have ga := Nat.gcd_dvd_left a b
  have gb := Nat.gcd_dvd_right a b
  refine ⟨a1, b1, ?_, ?_, gcd_of a b a1 b1 p q r t j1 j2 ?_ ?_, by omega, ?_⟩
  · have z1 : (q : Int) * b = p * a + a1 := by exact_mod_cast h1
    grind
  · have z2 : (r : Int) * a = t * b + b1 := by exact_mod_cast h2
    grind
  · exact (Nat.dvd_add_right (Nat.dvd_mul_left_of_dvd ga p)).1 (h1 ▸ Nat.dvd_mul_left_of_dvd gb q)
  · exact (Nat.dvd_add_right (Nat.dvd_mul_left_of_dvd gb t)).1 (h2 ▸ Nat.dvd_mul_left_of_dvd ga r)
  · have := Nat.mul_le_mul_right a1 hg.1
    omega
def StI (x0 y0 : Nat) (A B C D x y : Int) : Prop := ∃ (s : Bool) (p q r t X Y : Nat), A = sgF s p ∧ B = -sgF s q ∧ C = -sgF s r ∧ D = sgF s t ∧ x = X ∧ y = Y ∧ LSt x0 y0 s p q r t X Y
theorem stI_init (x0 y0 : Nat) (h : y0 ≤ x0) : StI x0 y0 1 0 0 1 x0 y0 := ⟨true, 1, 0, 0, 1, x0, y0, rfl, rfl, rfl, rfl, rfl, rfl, lst_init x0 y0 h⟩
theorem lst_le (x0 y0 : Nat) (s : Bool) (p q r t x y : Nat) (h : LSt x0 y0 s p q r t x y) (hle : y0 ≤ x0) : x ≤ x0 := by
  obtain ⟨ex, ey, det, -⟩ := h
  cases s
  · simp only [Bool.false_eq_true, if_false] at det
    have : r ≠ 0 := by rintro rfl; simp at det
    have := Nat.mul_le_mul_right x (show 1 ≤ r by omega)
    omega
  · simp only [if_true] at det
    have : t ≠ 0 := by rintro rfl; simp at det
    have := Nat.mul_le_mul_right x (show 1 ≤ t by omega)
    omega
/-- The bounds, as the walk wants them. -/
theorem stI_bd (x0 y0 : Nat) (A B C D x y : Int) (h : StI x0 y0 A B C D x y) (hx0 : x0 < 1000000000000000000) (hle : y0 ≤ x0) :
    (-1000000000 < A ∧ A < 1000000000) ∧ (-1000000000 < B ∧ B < 1000000000) ∧ (-1000000000 < C ∧ C < 1000000000) ∧ (-1000000000 < D ∧ D < 1000000000) ∧
    (0 ≤ x ∧ x < 1000000000000000000) ∧ (0 ≤ y ∧ y < 1000000000000000000) ∧ (0 ≤ x + A ∧ 0 ≤ x + B) ∧ 0 ≤ y + C ∧ 0 ≤ y + D := by
  obtain ⟨s, p, q, r, t, X, Y, rfl, rfl, rfl, rfl, rfl, rfl, h⟩ := h
  have hX := lst_le _ _ _ _ _ _ _ _ _ h hle
  obtain ⟨ex, ey, det, low, bp, bq, br, bt, le, go⟩ := h
  cases s <;> simp only [sgF, Bool.false_eq_true, if_false, if_true] at * <;> omega
theorem ediv_nat (a b k : Nat) (hb : 0 < b) (h : (a : Int) / (b : Int) = (k : Int)) : k * b ≤ a ∧ a < k * b + b := by
  have h' : a / b = k := by exact_mod_cast h
  subst h'
  have := Nat.div_add_mod a b
  have := Nat.mod_lt a hb
  rw [Nat.mul_comm]
  omega
theorem stI_step (x0 y0 : Nat) (A B C D x y : Int) (h : StI x0 y0 A B C D x y) (hx0 : x0 < 1000000000000000000) (hle : y0 ≤ x0) (h1 : 0 < y + C) (h2 : 0 < y + D) (k : Int)
    (hk1 : (x + A) / (y + C) = k) (hk2 : (x + B) / (y + D) = k) : StI x0 y0 C D (A - k * C) (B - k * D) y (x - k * y) ∧ 0 ≤ k ∧ (x - k * y) + (A - k * C) < y + C := by
  obtain ⟨b1, b2, b3, b4, b5, b6, b7, b8⟩ := stI_bd x0 y0 A B C D x y h hx0 hle
  have hk0 : 0 ≤ k := by rw [← hk1]; exact Int.ediv_nonneg b7.1 (by omega)
  have hlt : (x - k * y) + (A - k * C) < y + C := by
    have e := Int.emod_add_mul_ediv (x + A) (y + C)
    have l := Int.emod_lt_of_pos (x + A) h1
    rw [hk1] at e
    have e2 : (y + C) * k = k * y + k * C := by grind
    omega
  refine ⟨?_, hk0, hlt⟩
  obtain ⟨K, rfl⟩ := Int.eq_ofNat_of_zero_le hk0
  obtain ⟨s, p, q, r, t, X, Y, rfl, rfl, rfl, rfl, rfl, rfl, h⟩ := h
  have low := h.low
  cases s
  · simp only [sgF, Bool.false_eq_true, if_false] at *
    have n1 : ((X - p : Nat) : Int) / ((Y + r : Nat) : Int) = K := by rw [← hk1]; congr 1 <;> omega
    have n2 : ((X + q : Nat) : Int) / ((Y - t : Nat) : Int) = K := by rw [← hk2]; congr 1 <;> omega
    obtain ⟨k1, k2⟩ := ediv_nat _ _ _ (by omega) n1
    obtain ⟨k3, k4⟩ := ediv_nat _ _ _ (by omega) n2
    obtain ⟨hky, hS⟩ := lst_minus x0 y0 p q r t X Y K h hx0 hle (by omega) k1 k2 k3 k4
    refine ⟨true, r, t, p + K * r, q + K * t, Y, X - K * Y, ?_, ?_, ?_, ?_, rfl, ?_, hS⟩
    · simp [sgF]
    · simp [sgF]
    · simp only [sgF, if_true]; push_cast; grind
    · simp only [sgF, if_true]; push_cast; grind
    · rw [Int.ofNat_sub hky]; push_cast; rfl
  · simp only [sgF, if_true] at *
    have n1 : ((X + p : Nat) : Int) / ((Y - r : Nat) : Int) = K := by rw [← hk1]; congr 1 <;> omega
    have n2 : ((X - q : Nat) : Int) / ((Y + t : Nat) : Int) = K := by rw [← hk2]; congr 1 <;> omega
    obtain ⟨k1, k2⟩ := ediv_nat _ _ _ (by omega) n1
    obtain ⟨k3, k4⟩ := ediv_nat _ _ _ (by omega) n2
    obtain ⟨hky, hS⟩ := lst_plus x0 y0 p q r t X Y K h hx0 hle (by omega) k1 k2 k3 k4
    refine ⟨false, r, t, p + K * r, q + K * t, Y, X - K * Y, ?_, ?_, ?_, ?_, rfl, ?_, hS⟩
    · simp [sgF]
    · simp [sgF]
    · simp only [sgF, Bool.false_eq_true, if_false]; push_cast; grind
    · simp only [sgF, Bool.false_eq_true, if_false]; push_cast; grind
    · rw [Int.ofNat_sub hky]; push_cast; rfl
/-- What the factors make of the whole numbers, unless no step was made. -/
theorem stI_made (x0 y0 : Nat) (A B C D x y : Int) (S a b a' b' : Nat) (h : StI x0 y0 A B C D x y) (hno : ¬ (A = 1 ∧ B = 0)) (ha : a = x0 * S + a') (hb : b = y0 * S + b') (ha' : a' < S) (hb' : b' < S) : MadeG A B C D a b := by
  obtain ⟨s, p, q, r, t, X, Y, rfl, rfl, rfl, rfl, rfl, rfl, h⟩ := h
  have go := h.go
  cases s
  · simp only [sgF, Bool.false_eq_true, if_false] at *
    rcases go with ⟨h, _⟩ | hg
    · cases h
    · have := gmade_minus x0 y0 p q r t X Y S a b a' b' h hg ha hb ha' hb'
      simpa using this
  · simp only [sgF, if_true] at *
    rcases go with ⟨_, rfl, rfl, _⟩ | hg
    · exact absurd ⟨rfl, rfl⟩ hno
    · exact gmade_plus x0 y0 p q r t X Y S a b a' b' h hg ha hb ha' hb'
theorem val_lead (l : List Nat) (n : Nat) (hl : l.length ≤ n + 3) : val l = val (l.take n) + 1000000000 ^ n * (l.getD n 0 + 1000000000 * l.getD (n + 1) 0 + 1000000000 * 1000000000 * l.getD (n + 2) 0) := by
  have e : val (l.take (n + 3)) = val l := by rw [List.take_of_length_le hl]
  rw [← e, val_take_succ, val_take_succ, val_take_succ, Nat.pow_succ 1000000000 (n + 1), Nat.pow_succ]
  generalize l.getD n 0 = l0
  generalize l.getD (n + 1) 0 = l1
  generalize l.getD (n + 2) 0 = l2
  generalize val (l.take n) = V
  generalize 1000000000 ^ n = P
  clear e hl
  generalize 1000000000 = M
  grind
def leadW (l : List Nat) (n ten K : Nat) : Nat := (l.getD (n + 2) 0 * 1000000000 + l.getD (n + 1) 0) * ten + l.getD n 0 / K
theorem lead_split (l : List Nat) (ok : okL l) (n : Nat) (hl : l.length ≤ n + 3) (ten K : Nat) (hK : ten * K = 1000000000) :
    ∃ a', val l = leadW l n ten K * (1000000000 ^ n * K) + a' ∧ a' < 1000000000 ^ n * K := by
  have hK0 : 0 < K := by rcases Nat.eq_zero_or_pos K with rfl | h <;> omega
  have e := val_lead l n hl
  have hv : val (l.take n) < 1000000000 ^ n := by
    have h1 := val_lt _ (okL_take l ok n)
    have h2 : (l.take n).length ≤ n := by rw [List.length_take]; omega
    exact Nat.lt_of_lt_of_le h1 (Nat.pow_le_pow_right (by omega) h2)
  have hd := Nat.div_add_mod (l.getD n 0) K
  have hm := Nat.mod_lt (l.getD n 0) hK0
  unfold leadW
  generalize l.getD n 0 = l0 at *
  generalize l.getD (n + 1) 0 = l1 at *
  generalize l.getD (n + 2) 0 = l2 at *
  generalize val (l.take n) = V at *
  generalize 1000000000 ^ n = P at *
  generalize l0 / K = d at *
  generalize l0 % K = m at *
  refine ⟨V + P * m, ?_, ?_⟩
  · rw [e, ← hd]
    generalize 1000000000 = M at *
    subst hK
    grind
  · have h1 : P * (m + 1) ≤ P * K := Nat.mul_le_mul_left _ hm
    have h2 : P * (m + 1) = P * m + P := by grind
    omega
theorem lead_lt (l : List Nat) (ok : okL l) (n ten K : Nat) (hK : ten * K = 1000000000) (h2 : l.getD (n + 2) 0 < K) : leadW l n ten K < 1000000000000000000 := by
  have hK0 : 0 < K := by omega
  have hg : ∀ i, l.getD i 0 < 1000000000 := fun i => by
    rw [List.getD_eq_getElem?_getD]
    rcases Nat.lt_or_ge i l.length with h | h
    · rw [List.getElem?_eq_getElem h]; exact ok _ (List.getElem_mem h)
    · rw [List.getElem?_eq_none h]; decide
  have h1 := hg (n + 1)
  have h0 := hg n
  have hd : l.getD n 0 / K < ten := Nat.div_lt_of_lt_mul (by rw [Nat.mul_comm, hK]; exact h0)
  unfold leadW
  generalize l.getD n 0 / K = d at *
  generalize l.getD (n + 1) 0 = l1 at *
  generalize l.getD (n + 2) 0 = l2 at *
  have e1 : (l2 * 1000000000 + l1) * ten + ten = (l2 * 1000000000 + l1 + 1) * ten := by rw [Nat.add_mul _ 1, Nat.one_mul]
  have e2 : (l2 * 1000000000 + l1 + 1) * ten ≤ (K * 1000000000) * ten := Nat.mul_le_mul_right _ (by omega)
  have e3 : (K * 1000000000) * ten = 1000000000000000000 := by rw [Nat.mul_right_comm, Nat.mul_comm K, hK]
  omega
theorem div_le_of_le (x y S a b a' b' : Nat) (ha : a = x * S + a') (hb : b = y * S + b') (ha' : a' < S) (hle : b ≤ a) : y ≤ x := by
  rcases Nat.lt_or_ge x y with h | h
  · have := Nat.mul_le_mul_right S h
    rw [Nat.succ_mul] at this
    omega
  · exact h
end Go.Proofs.YtpjnglcojamfmaaDoor
namespace Go.Proofs.YtpjnglcojamfmaaDoor
open Go.RowKit Go.Shelf
attribute [local go_sem] Oper.semAt_some
def m64 (n : Nat) : Int := IntKind.u64.wrap (n : Int)
theorem u64_wrap (n : Int) : IntKind.u64.wrap n = n % 18446744073709551616 := rfl
theorem m64_step (q y : Nat) : IntKind.u64.wrap (IntKind.u64.wrap (m64 q * 1000000000) + y) = m64 (q * 1000000000 + y) := by
  unfold m64
  simp only [u64_wrap]
  omega
theorem m64_zero : m64 0 = 0 := rfl
theorem m64_small (n : Nat) (h : n < 18446744073709551616) : m64 n = (n : Int) := by
  unfold m64
  rw [u64_wrap]
  omega
def sumB : List Lb → Int := List.foldl (fun s x => IntKind.u64.wrap (IntKind.u64.wrap (s * 1000000000) + (x.1.2 : Nat))) 0
theorem sumB_snoc (pre : List Lb) (x : Lb) : sumB (pre ++ [x]) = IntKind.u64.wrap (IntKind.u64.wrap (sumB pre * 1000000000) + (x.1.2 : Nat)) := by simp [sumB]
theorem sumB_upto (l : List Nat) (h : okL l) (k : Nat) (hk : k ≤ l.length) : sumB (upto (bk l h) k) = m64 (vfrom l (l.length - k)) := by
  induction k with
  | zero => simp [upto, sumB, vfrom_end, m64_zero]
  | succ k ih =>
    rw [upto_succ, sumB_snoc, ih (by omega)]
    have h1 : l.length - k = l.length - (k + 1) + 1 := by omega
    have h2 : (bk l h k).1.2 = l.getD (l.length - (k + 1)) 0 := by simp only [bk]; rw [show l.length - 1 - k = l.length - (k + 1) by omega]
    rw [h2, h1, m64_step, vfrom_step l (l.length - (k + 1)) (by omega)]
set_option maxRecDepth 100000 in
set_option maxHeartbeats 2000000 in
theorem wordOf_in (F : Fence) (n : Nat) (hf : F.fn 73) (hf1 : F.fn 82) (hf2 : F.fn 94) (hro : F.round = none) (hn : 3 ≤ n) (B : Nat) (v : Value) (l : List Nat) (w : World) (hI : IsL B w v l) :
    CallsIn F n Tryd.prog 73 #[v] w fun e W' => e = .returned (.int .u64 (m64 (val l))) ∧ Below w.heap.size w W' := by
  have h1 : 1 ≤ n := by omega
  obtain ⟨a, cap, rfl, hl, hcap, hok, hr⟩ := hI
  refine callsIn_of_wp_marks Tryd.func73 rfl hf ?_ hro
  simp only [Tryd.ntmps73, List.size_toArray, List.length_cons, List.length_nil, Nat.reduceAdd, Nat.reduceSub, Array.replicate_succ, Array.replicate_zero, List.push_toArray, List.append_toArray, List.nil_append, List.cons_append]
  gi_wp2_with (gi_at_call 82; refine (back_in F (n - 1) hf1 hro _ _ _ _).mono ?_; rintro e w' ⟨rfl, rfl⟩)
  have bS := Boxed.new w 66 (.int .u64 0)
  have bN := Boxed.new (w.alloc (.cells #[.int .u64 0] 66)) 26 (.slice a l.length cap)
  rw [World.size_alloc] at bN
  have hB0 : Below w.heap.size w ((w.alloc (.cells #[.int .u64 0] 66)).alloc (.cells #[.slice a l.length cap] 26)) := ((Below.refl _ w).alloc (Nat.le_refl _) _).alloc (by simp) _
  have hr0 : l = [] ∨ ∃ b off, a = some ⟨b, off, none⟩ ∧ b < w.heap.size ∧ ∀ i, i < l.length → ((w.alloc (.cells #[.int .u64 0] 66)).alloc (.cells #[.slice a l.length cap] 26)).cell? ⟨b, off + i, none⟩ = some (.int .u32 (l.getD i 0 : Nat)) := by
    rcases hr with h | ⟨b, off, e, _, hb, hc⟩
    · exact .inl h
    · exact .inr ⟨b, off, e, hb, fun i hi => (hB0.cell (p := ⟨b, off + i, none⟩) hb).trans (hc i hi)⟩
  refine wpIn_rangeFunc_ownG hro h1 (gf := 94) (lb := #[.pointer (some ⟨w.heap.size + 1, 0, none⟩)]) rfl hf2 (enters_of Tryd.func94 (by kernel_rfl) rfl)
    (back_stops F (n - 1) hf2 hro (by omega) (w.heap.size + 1) w.heap.size _ l hok _ (by simp) (by simp; omega) bN.cell
      ⟨a, cap, rfl, hl, hcap, hr0⟩)
    KB_t (KB_b (by simp; omega) (by simp)) (Below.refl _ _) (fun _ => rfl)
    (fun pre W => (W.cell? ⟨w.heap.size, 0, none⟩ = some (.int .u64 (sumB pre)) ∧ W.frozen? ⟨w.heap.size, 0, none⟩ = false) ∧ Below w.heap.size w W)
    (fun _ _ _ => False)
    (OwnFrom.and (Own.from (fun s A B row hs hg hr => ⟨cell_kept hs.1 hg hr, (frozen_kept hs.1 hg hr).trans hs.2⟩) _) (ownFrom_below (Nat.le_refl _) (by simp; omega)))
    (fun _ _ _ _ _ hs _ _ => hs)
    ⟨⟨(bS.alloc _).cell, (bS.alloc _).frozen⟩, hB0⟩
    (fun x => { tmps := #[.slice a l.length cap, undef, .int .u64 0, .pointer (some ⟨w.heap.size, 0, none⟩), undef, .int .u32 (x.1.2 : Nat), .slice a l.length cap, .func (.func 94) #[] #[.pointer (some ⟨w.heap.size + 1, 0, none⟩)], .int .i64 x.1.1, .int .u32 (x.1.2 : Nat), undef, undef, undef, undef, undef, undef], defers := [] }) ?assign ?body ?done ?stop
  case assign =>
    intro lx x W K hK
    gi_wp2
    exact hK
  case body =>
    rintro lx pre x W ⟨⟨hc, hf⟩, hB⟩ _
    have hx := x.2
    gi_wp2
    exact ⟨(KeepsOthers.setCell _ _ _).from _, ⟨(Below.refl w.heap.size W).setCell (p := ⟨w.heap.size, 0, none⟩) (Nat.le_refl _) _, World.cell?_of_block (Below.heap_setCell W ⟨w.heap.size, 0, none⟩ _ (w.heap.size + 1) (Nat.succ_ne_self _))⟩,
      ⟨by rw [sumB_snoc]; exact World.cell?_setCell_same' _ _ _ (by rw [hc]; rfl), by rw [World.frozen?_setCell]; exact hf⟩, hB.setCell (p := ⟨w.heap.size, 0, none⟩) (Nat.le_refl _) _⟩
  case done =>
    rintro D ys W hD rfl ⟨⟨hc, _⟩, hB⟩ hK
    rw [sumB_upto l hok l.length (Nat.le_refl _), Nat.sub_self] at hc
    gi_wp2
    refine ⟨by simp, .inl ⟨_, _, rfl, run_takeDeferred hK, ?_⟩⟩
    exact ⟨_, results_tmp rfl _ _ _, rfl, hB.trans (belowK_b (w := w) (Nat.le_refl _) W D _ _ (by simp at hD; omega) hK rfl rfl)⟩
  case stop =>
    rintro D c pre W _ _ h _
    exact h.elim
theorem wordOf_any (B : Nat) (v : Value) (l : List Nat) (w : World) (h : IsL B w v l) :
    Calls Tryd.prog 73 #[v] w fun e w' => e = .returned (.int .u64 (m64 (val l))) ∧ Below w.heap.size w w' :=
  (callsIn_wide (n := 3)).1 (wordOf_in Fence.wide 3 trivial trivial trivial rfl (Nat.le_refl _) B v l w h)
end Go.Proofs.YtpjnglcojamfmaaDoor
namespace Go.Proofs.YtpjnglcojamfmaaDoor
open Go.ChangeShapes Go.WideShapes Go.ChangeAt Go.RowKit
theorem hidG {p : Prop} (h : p) : Hid p := h
theorem wrap_id (x : Int) (h1 : -9223372036854775808 ≤ x) (h2 : x < 9223372036854775808) : IntKind.i64.wrap x = x := by
  have e : IntKind.i64.wrap x = if x % 18446744073709551616 ≥ 9223372036854775808 then x % 18446744073709551616 - 18446744073709551616 else x % 18446744073709551616 := by
    unfold IntKind.wrap
    simp [IntKind.bits, IntKind.signed]
  rw [e]
  split <;> omega
theorem okL_getD' (t : List Nat) (h : okL t) (i : Nat) : t.getD i 0 < 1000000000 := by
  by_cases hi : i < t.length
  · exact okL_getD t h i hi
  · rw [List.getD_eq_getElem?_getD, List.getElem?_eq_none (by omega)]; decide
/-- The same at an index that is computed, and the limb a letter. -/
theorem limbAt_at (B : Nat) (v : Value) (l : List Nat) (i : Int) (k : Nat) (X : Int) (w : World) (h : IsL B w v l) (hi : i = (k : Int)) (hk : k ≤ 1000000) (hX : ((l.getD k 0 : Nat) : Int) = X) :
    Calls Tryd.prog 86 #[v, .int .i64 i] w fun e w' => e = .returned (.int .i64 X) ∧ w' = w := by
  subst hi hX
  exact limbAt_any B v l k w h hk
set_option maxRecDepth 100000 in
set_option maxHeartbeats 2000000 in
theorem leadingWord_any (B : Nat) (v : Value) (l : List Nat) (n ten K : Nat) (w : World) (h : IsL B w v l) (hn : n ≤ 100000) (hK : ten * K = 1000000000) (hlt : leadW l n ten K < 1000000000000000000) :
    Calls Tryd.prog 85 #[v, .int .i64 (n + 1 : Nat), .int .i64 (ten : Nat)] w fun e w' => e = .returned (.int .i64 (leadW l n ten K : Nat)) ∧ Below w.heap.size w w' := by
  have HL : Hid (IsL B w v l) := h
  obtain ⟨p, c, rfl, _, _, hok, _⟩ := h
  obtain ⟨X0, h0⟩ : ∃ X : Int, ((l.getD n 0 : Nat) : Int) = X := ⟨_, rfl⟩
  obtain ⟨X1, h1⟩ : ∃ X : Int, ((l.getD (n + 1) 0 : Nat) : Int) = X := ⟨_, rfl⟩
  obtain ⟨X2, h2⟩ : ∃ X : Int, ((l.getD (n + 2) 0 : Nat) : Int) = X := ⟨_, rfl⟩
  have H0 := hidG h0; have H1 := hidG h1; have H2 := hidG h2
  have b0 := okL_getD' l hok n
  have b1 := okL_getD' l hok (n + 1)
  have b2 := okL_getD' l hok (n + 2)
  obtain ⟨T, hT⟩ : ∃ T : Int, (ten : Int) = T := ⟨_, rfl⟩
  obtain ⟨M, hM⟩ : ∃ M : Int, (K : Int) = M := ⟨_, rfl⟩
  have hTM : T * M = 1000000000 := by rw [← hT, ← hM, ← Int.natCast_mul, hK]; rfl
  have hT1 : 1 ≤ T := by
    have : ten ≠ 0 := by rintro rfl; omega
    omega
  have hM1 : 1 ≤ M := by
    have : K ≠ 0 := by rintro rfl; omega
    omega
  obtain ⟨W, hW⟩ : ∃ W : Int, X2 * 1000000000 + X1 = W := ⟨_, rfl⟩
  have hlead : ((leadW l n ten K : Nat) : Int) = W * T + X0 / M := by
    unfold leadW
    rw [Int.natCast_add, Int.natCast_mul, Int.natCast_add, Int.natCast_mul, Int.natCast_ediv, h0, h1, h2, hT, hM, ← hW]
    rfl
  have hX0 : 0 ≤ X0 := by omega
  have hd0 : 0 ≤ X0 / M := Int.ediv_nonneg hX0 (by omega)
  have hW0 : 0 ≤ W := by omega
  have hWT0 : 0 ≤ W * T := Int.mul_nonneg hW0 (by omega)
  have hWT : W * T < 1000000000000000000 := by omega
  have hdl : X0 / M < 1000000000000000000 := by omega
  have HLE := hidG hlead
  have c0 : 0 ≤ X0 ∧ X0 < 1000000000 := by omega
  have c1 : 0 ≤ X1 ∧ X1 < 1000000000 := by omega
  have c2 : 0 ≤ X2 ∧ X2 < 1000000000 := by omega
  have HW := hidG hW
  have HN : Hid (n ≤ 100000) := hn
  have hM2 : M ≤ 1000000000 := by
    have := Int.mul_le_mul_of_nonneg_right hT1 (show 0 ≤ M by omega)
    omega
  have hT2 : T ≤ 1000000000 := by
    have := Int.mul_le_mul_of_nonneg_left hM1 (show 0 ≤ T by omega)
    omega
  have hdiv : Int.tdiv 1000000000 T = M := by
    rw [Int.tdiv_eq_ediv_of_nonneg (by decide), ← hTM]
    exact Int.mul_ediv_cancel_left _ (by omega)
  have hdiv2 : Int.tdiv X0 M = X0 / M := Int.tdiv_eq_ediv_of_nonneg hX0
  rw [hT]
  clear h0 h1 h2 hT hM hK hlt hlead hW b0 b1 b2 hok hTM
  go_enter Tryd.func85, Tryd.ntmps85
  go_wp2_with fail
  refine (limbAt_at B _ l _ (n + 2) X2 _ HL.out (by push_cast; omega) (by have := HN.out; omega) H2.out).mono ?_
  rintro e w' ⟨rfl, hw'⟩
  subst hw'
  go_wp2_with fail
  refine (limbAt_at B _ l _ (n + 1) X1 _ HL.out (by omega) (by have := HN.out; omega) H1.out).mono ?_
  rintro e w2 ⟨rfl, hw2⟩
  subst hw2
  go_upto_region 2 with fail
  rw [HW.out]
  have q1 : IntKind.i64.wrap (W * T) = W * T := wrap_id _ (by omega) (by omega)
  have q2 : IntKind.i64.wrap (n : Int) = (n : Int) := wrap_id _ (by omega) (by omega)
  have q3 : (T == 0) = false := by rw [beq_eq_false_iff_ne]; omega
  have q4 : (M == 0) = false := by rw [beq_eq_false_iff_ne]; omega
  have q5 : IntKind.i64.wrap (Int.tdiv 1000000000 T) = M := by rw [hdiv]; exact wrap_id _ (by omega) (by omega)
  have q6 : IntKind.i64.wrap (X0.tdiv M) = X0 / M := by rw [hdiv2]; exact wrap_id _ (by omega) (by omega)
  have q7 : IntKind.i64.wrap (W * T + X0 / M) = W * T + X0 / M := wrap_id _ (by omega) (by omega)
  go_quiet (first | (go_at_call 86; refine Calls.quiet_of_same (limbAt_at B _ l _ n X0 _ HL.out rfl (by have := HN.out; omega) H0.out)))
  go_wp2
  go_ret
  exact ⟨ret_int HLE.out.symm, below_drewN (Below.refl _ _) _⟩
theorem leadingWord_at (B : Nat) (v : Value) (l : List Nat) (n ten K : Nat) (i T : Int) (w : World) (h : IsL B w v l) (hi : i = ((n + 1 : Nat) : Int)) (hT : T = ((ten : Nat) : Int)) (hn : n ≤ 100000) (hK : ten * K = 1000000000) (hlt : leadW l n ten K < 1000000000000000000) :
    Calls Tryd.prog 85 #[v, .int .i64 i, .int .i64 T] w fun e w' => e = .returned (.int .i64 (leadW l n ten K : Nat)) ∧ Below w.heap.size w w' := by
  subst hi hT
  exact leadingWord_any B v l n ten K w h hn hK hlt
/-- The leading digits of two numbers, at one place. -/
def LeadOf (a b x y : Nat) : Prop := ∃ S a' b', a = x * S + a' ∧ b = y * S + b' ∧ a' < S ∧ b' < S ∧ x < 1000000000000000000 ∧ y ≤ x
theorem lead_of (a b : List Nat) (n ten K : Nat) (oa : okL a) (ob : okL b) (hla : a.length = n + 3) (hlb : b.length ≤ n + 3) (hK : ten * K = 1000000000) (ht : a.getD (n + 2) 0 < K) (hle : val b ≤ val a) :
    LeadOf (val a) (val b) (leadW a n ten K) (leadW b n ten K) := by
  obtain ⟨a', ha, hra⟩ := lead_split a oa n (by omega) ten K hK
  obtain ⟨b', hb, hrb⟩ := lead_split b ob n hlb ten K hK
  exact ⟨_, a', b', ha, hb, hra, hrb, lead_lt a oa n ten K hK ht, div_le_of_le _ _ _ _ _ a' b' ha hb hra hle⟩
theorem pow_cut (k : Nat) (hk : k ≤ 8) : 10 ^ k * 10 ^ (9 - k) = 1000000000 := by
  rw [← Nat.pow_add, show k + (9 - k) = 9 by omega]
theorem pow_le8 (k : Nat) (hk : k ≤ 8) : 1 ≤ 10 ^ k ∧ 10 ^ k ≤ 100000000 := ⟨Nat.pow_pos (by decide), by
  have := Nat.pow_le_pow_right (show 0 < 10 by decide) hk
  exact this⟩
theorem top_lt (X k : Nat) (hk : k ≤ 8) (h : X * 10 ^ k < 1000000000) : X < 10 ^ (9 - k) := by
  apply Classical.byContradiction
  intro hn
  have h1 : 10 ^ (9 - k) * 10 ^ k ≤ X * 10 ^ k := Nat.mul_le_mul_right _ (by omega)
  rw [Nat.mul_comm, pow_cut k hk] at h1
  omega
set_option maxRecDepth 100000 in
set_option maxHeartbeats 2000000 in
theorem leadingWords_any (B : Nat) (va vb : Value) (a b : List Nat) (n : Nat) (w : World) (ha : IsL B w va a) (hb : IsL B w vb b) (hn : n ≤ 100000) (hla : a.length = n + 3) (hlb : b.length ≤ n + 3) (hta : 1 ≤ a.getD (n + 2) 0) (hle : val b ≤ val a) :
    Calls Tryd.prog 70 #[va, vb] w fun e w' => ∃ x y : Nat, e = .returned (.tuple #[.int .i64 (x : Nat), .int .i64 (y : Nat)]) ∧ LeadOf (val a) (val b) x y ∧ Below w.heap.size w w' := by
  have HA : Hid (∀ W, Below w.heap.size w W → IsL B W va a) := fun W hW => ha.below hW
  have HB : Hid (∀ W, Below w.heap.size w W → IsL B W vb b) := fun W hW => hb.below hW
  obtain ⟨pa, ca, rfl, _⟩ := id ha
  obtain ⟨pb, cb, rfl, _⟩ := id hb
  obtain ⟨_, _, _, haok, hca⟩ := ha.cells
  obtain ⟨_, _, _, hbok, _⟩ := hb.cells
  obtain ⟨ba, oa, rfl, hba, hcell⟩ := hca (n + 2) (by omega)
  have HLO : Hid (∀ k, k ≤ 8 → a.getD (n + 2) 0 * 10 ^ k < 1000000000 → LeadOf (val a) (val b) (leadW a n (10 ^ k) (10 ^ (9 - k))) (leadW b n (10 ^ k) (10 ^ (9 - k)))) := fun k hk h =>
    lead_of a b n _ _ haok hbok hla hlb (pow_cut k hk) (top_lt _ k hk h) hle
  have hx2 := okL_getD' a haok (n + 2)
  obtain ⟨x, hx⟩ : ∃ x, a.getD (n + 2) 0 = x := ⟨_, rfl⟩
  rw [hx] at hcell hx2 hta HLO
  have HC : Hid (∀ W, Below w.heap.size w W → W.cell? ⟨ba, oa + (n + 2), none⟩ = some (.int .u32 (x : Nat))) := fun W hW => (hW.cell (p := ⟨ba, oa + (n + 2), none⟩) hba).trans hcell
  have HLA : Hid (a.length = n + 3) := hla
  rw [hla]
  clear hca hcell ha hb hle hla hx hlb
  go_enter Tryd.func70, Tryd.ntmps70
  go_wp2
  go_loopw [7] (fun tv wr => ∃ k : Nat, k ≤ 8 ∧ tv = .int .i64 ((10 ^ k : Nat) : Int) ∧ x * 10 ^ k < 1000000000 ∧ Below w.heap.size w wr) (fun tv _ => (1000000000 - intOf tv).toNat)
  case atStart => exact ⟨0, by omega, rfl, by omega, Below.refl _ _⟩
  case round =>
    obtain ⟨k, hk, rfl, hxk, hB⟩ := hrel
    have hcell := HC.out _ hB
    have hp := pow_le8 k hk
    have HP1 : Hid (x * 10 ^ k * 10 < 1000000000 → k + 1 ≤ 8) := fun h => by
      apply Classical.byContradiction
      intro hn
      obtain rfl : k = 8 := by omega
      simp only [Nat.reducePow] at h
      omega
    have HP2 : Hid (((10 ^ k : Nat) : Int) * 10 = ((10 ^ (k + 1) : Nat) : Int)) := by
      show ((10 ^ k : Nat) : Int) * 10 = ((10 ^ (k + 1) : Nat) : Int)
      rw [Nat.pow_succ, Int.natCast_mul]; rfl
    have HP3 : Hid (x * 10 ^ (k + 1) = x * 10 ^ k * 10) := by show x * 10 ^ (k + 1) = x * 10 ^ k * 10; rw [Nat.pow_succ, Nat.mul_assoc]
    have HBR : Hid (Below w.heap.size w wr) := hB
    have HLK := hidG (HLO.out k hk hxk)
    have HKK : Hid (k ≤ 8) := hk
    obtain ⟨T, hT⟩ : ∃ T : Int, ((10 ^ k : Nat) : Int) = T := ⟨_, rfl⟩
    have HT := hidG hT
    have t1 : 1 ≤ T := by omega
    have t2 : T ≤ 100000000 := by omega
    obtain ⟨X, hX⟩ : ∃ X : Int, (x : Int) = X := ⟨_, rfl⟩
    have HX := hidG hX
    have hXT : ((x * 10 ^ k : Nat) : Int) = X * T := by rw [← hX, ← hT]; exact Int.natCast_mul _ _
    have HXT := hidG hXT
    have x1 : 0 ≤ X * T := by omega
    have x2 : X * T < 1000000000 := by omega
    have x3 : 0 ≤ X ∧ X < 1000000000 := by omega
    rw [hX] at hcell
    rw [hT]
    clear hT hX hXT hp hxk hB
    by_cases hc : X * T * 10 < 1000000000
    · have hd : decide (X * T * 10 < 1000000000) = true := decide_eq_true hc
      go_wp2
      go_roundw
      case rel =>
        have e1 : k + 1 ≤ 8 := HP1.out (by have := HXT.out; omega)
        refine ⟨k + 1, e1, ?_, ?_, HBR.out⟩
        · rw [← HP2.out, HT.out]
        · rw [HP3.out]; have := HXT.out; omega
      case measure => simp [intOf]; omega
    · have hd : decide (X * T * 10 < 1000000000) = false := decide_eq_false hc
      have HD : Hid (leadW a n (10 ^ k) (10 ^ (9 - k)) < 1000000000000000000 ∧ leadW b n (10 ^ k) (10 ^ (9 - k)) < 1000000000000000000) := by
        obtain ⟨_, _, _, _, _, _, _, h1, h2⟩ := HLK.out
        exact ⟨h1, by omega⟩
      have HIA := hidG (HA.out _ HBR.out)
      have HIB := hidG (HB.out _ HBR.out)
      rw [HLA.out] at HIA
      go_wp2_with fail
      refine (leadingWord_at B _ a n (10 ^ k) (10 ^ (9 - k)) _ _ _ HIA.out (by omega) HT.out.symm hn (pow_cut k HKK.out) HD.out.1).mono ?_
      rintro e w2 ⟨rfl, hb2⟩
      have HIB2 := hidG (HIB.out.below hb2)
      have HB2 := hidG (HBR.out.trans (hb2.mono HBR.out.size))
      clear hb2
      go_wp2_with fail
      refine (leadingWord_at B _ b n (10 ^ k) (10 ^ (9 - k)) _ _ _ HIB2.out (by omega) HT.out.symm hn (pow_cut k HKK.out) HD.out.2).mono ?_
      rintro e w3 ⟨rfl, hb3⟩
      have HB3 := hidG (HB2.out.trans (hb3.mono HB2.out.size))
      clear hb3
      go_wp2
      go_ret2
      exact ⟨_, _, rfl, HLK.out, HB3.out⟩
end Go.Proofs.YtpjnglcojamfmaaDoor
namespace Go.Proofs.YtpjnglcojamfmaaDoor
open Go.ChangeShapes Go.WideShapes Go.ChangeAt Go.RowKit
/-- What noSteps holds. -/
def NS (w : World) : Prop :=
  w.cell? ⟨0, 0, none⟩ = some (.int .i64 1) ∧ w.cell? ⟨0, 1, none⟩ = some (.int .i64 0) ∧ w.cell? ⟨0, 2, none⟩ = some (.int .i64 0) ∧ w.cell? ⟨0, 3, none⟩ = some (.int .i64 1)
theorem NS.below {w w' : World} (h : NS w) (hb : Below w.heap.size w w') : NS w' := by
  have hlt := cell_lt h.1
  unfold NS at *
  simp only [fun o => hb.cell (p := ⟨0, o, none⟩) hlt]
  exact h
/-- What the steps are, once they have ended. -/
def StE (x0 y0 : Nat) (A B C D : Int) : Prop := ∃ x y, StI x0 y0 A B C D x y
set_option maxRecDepth 100000 in
set_option maxHeartbeats 2000000 in
theorem leadingSteps_any (x0 y0 : Nat) (w : World) (hx0 : x0 < 1000000000000000000) (hle : y0 ≤ x0) (h : NS w) :
    Calls Tryd.prog 69 #[.int .i64 (x0 : Nat), .int .i64 (y0 : Nat)] w fun e w' => ∃ A B C D : Int, e = .returned (.agg #[.int .i64 A, .int .i64 B, .int .i64 C, .int .i64 D]) ∧ StE x0 y0 A B C D ∧ Below w.heap.size w w' := by
  have hlt := cell_lt h.1
  obtain ⟨n0, n1, n2, n3⟩ := h
  go_enter Tryd.func69, Tryd.ntmps69
  go_wp2
  have hB0 : Below w.heap.size w ((w.alloc (.cells #[.int .i64 0, .int .i64 0, .int .i64 0, .int .i64 0] 91)).alloc (.cells #[.int .i64 1, .int .i64 0, .int .i64 0, .int .i64 1] 91)) := ((Below.refl _ w).alloc (Nat.le_refl _) _).alloc (by simp) _
  have hb0 : Bx ((w.alloc (.cells #[.int .i64 0, .int .i64 0, .int .i64 0, .int .i64 0] 91)).alloc (.cells #[.int .i64 1, .int .i64 0, .int .i64 0, .int .i64 1] 91)) w.heap.size [.int .i64 0, .int .i64 0, .int .i64 0, .int .i64 0] := (bx_new w _ _).alloc _
  have hb1 : Bx ((w.alloc (.cells #[.int .i64 0, .int .i64 0, .int .i64 0, .int .i64 0] 91)).alloc (.cells #[.int .i64 1, .int .i64 0, .int .i64 0, .int .i64 1] 91)) (w.heap.size + 1) [.int .i64 1, .int .i64 0, .int .i64 0, .int .i64 1] := by
    have := bx_new (w.alloc (.cells #[.int .i64 0, .int .i64 0, .int .i64 0, .int .i64 0] 91)) [.int .i64 1, .int .i64 0, .int .i64 0, .int .i64 1] 91
    rw [World.size_alloc] at this
    exact this
  generalize (w.alloc (.cells #[.int .i64 0, .int .i64 0, .int .i64 0, .int .i64 0] 91)).alloc (.cells #[.int .i64 1, .int .i64 0, .int .i64 0, .int .i64 1] 91) = W0 at *
  go_loopw [0, 1] (fun xv yv wr => ∃ A B C D x y : Int, xv = .int .i64 x ∧ yv = .int .i64 y ∧ StI x0 y0 A B C D x y ∧ Bx wr w.heap.size [.int .i64 0, .int .i64 0, .int .i64 0, .int .i64 0] ∧ Bx wr (w.heap.size + 1) [.int .i64 A, .int .i64 B, .int .i64 C, .int .i64 D] ∧ Below w.heap.size w wr)
    (fun _ yv wr => (intOf yv + intOf ((wr.cell? ⟨w.heap.size + 1, 2, none⟩).getD (.int .i64 0))).toNat)
  case atStart => exact ⟨1, 0, 0, 1, x0, y0, rfl, rfl, stI_init x0 y0 hle, hb0, hb1, hB0⟩
  case round =>
    clear hb0 hb1 hB0 n0 n1 n2 n3
    obtain ⟨A, B, C, D, x, y, rfl, rfl, hS, hX, hY, hB⟩ := hrel
    obtain ⟨⟨a1, a2⟩, ⟨b1, b2⟩, ⟨c1, c2⟩, ⟨d1, d2⟩, ⟨x1, x2⟩, ⟨y1, y2⟩, ⟨p1, p2⟩, p3, p4⟩ := stI_bd x0 y0 A B C D x y hS hx0 hle
    have e0 := hY.cell 0
    have e1 := hY.cell 1
    have e2 := hY.cell 2
    have e3 := hY.cell 3
    simp only [List.getElem?_cons_zero, List.getElem?_cons_succ] at e0 e1 e2 e3
    have HS := hidG hS
    have HX := hidG hX
    have HY := hidG hY
    have HB := hidG hB
    clear hS hX hY hB
    have w1 : IntKind.i64.wrap (y + C) = y + C := wrap_id _ (by omega) (by omega)
    have w2 : IntKind.i64.wrap (y + D) = y + D := wrap_id _ (by omega) (by omega)
    have w3 : IntKind.i64.wrap (x + A) = x + A := wrap_id _ (by omega) (by omega)
    have w4 : IntKind.i64.wrap (x + B) = x + B := wrap_id _ (by omega) (by omega)
    by_cases hg : 0 < y + C ∧ 0 < y + D
    · obtain ⟨g1, g2⟩ := hg
      obtain ⟨k, hk⟩ : ∃ k, (x + A) / (y + C) = k := ⟨_, rfl⟩
      obtain ⟨m, hm⟩ : ∃ m, (x + B) / (y + D) = m := ⟨_, rfl⟩
      have w5 : IntKind.i64.wrap ((x + A).tdiv (y + C)) = k := by
        have h0 : 0 ≤ k := by rw [← hk]; exact Int.ediv_nonneg p1 (by omega)
        have h1 : k ≤ x + A := by rw [← hk]; exact Int.ediv_le_self _ p1
        rw [Int.tdiv_eq_ediv_of_nonneg p1, hk]
        exact wrap_id _ (by omega) (by omega)
      have w6 : IntKind.i64.wrap ((x + B).tdiv (y + D)) = m := by
        have h0 : 0 ≤ m := by rw [← hm]; exact Int.ediv_nonneg p2 (by omega)
        have h1 : m ≤ x + B := by rw [← hm]; exact Int.ediv_le_self _ p2
        rw [Int.tdiv_eq_ediv_of_nonneg p2, hm]
        exact wrap_id _ (by omega) (by omega)
      have z1 : (y + C == 0) = false := by rw [beq_eq_false_iff_ne]; omega
      have z2 : (y + D == 0) = false := by rw [beq_eq_false_iff_ne]; omega
      by_cases hkm : k = m
      · subst hkm
        obtain ⟨hS2, hk0, hdec⟩ := stI_step x0 y0 A B C D x y HS.out hx0 hle g1 g2 k hk hm
        obtain ⟨C', hC'⟩ : ∃ C', A - k * C = C' := ⟨_, rfl⟩
        obtain ⟨D', hD'⟩ : ∃ D', B - k * D = D' := ⟨_, rfl⟩
        obtain ⟨y', hy'⟩ : ∃ y', x - k * y = y' := ⟨_, rfl⟩
        rw [hC', hD', hy'] at hS2
        rw [hC', hy'] at hdec
        obtain ⟨_, _, ⟨c1', c2'⟩, ⟨d1', d2'⟩, _, ⟨y1', y2'⟩, _⟩ := stI_bd x0 y0 _ _ _ _ _ _ hS2 hx0 hle
        have w7 : IntKind.i64.wrap (k * C) = k * C := wrap_id _ (by omega) (by omega)
        have w8 : IntKind.i64.wrap (k * D) = k * D := wrap_id _ (by omega) (by omega)
        have w9 : IntKind.i64.wrap (A - k * C) = C' := by rw [hC']; exact wrap_id _ (by omega) (by omega)
        have w10 : IntKind.i64.wrap (B - k * D) = D' := by rw [hD']; exact wrap_id _ (by omega) (by omega)
        have w11 : IntKind.i64.wrap (k * y) = k * y := wrap_id _ (by omega) (by omega)
        have w12 : IntKind.i64.wrap (x - k * y) = y' := by rw [hy']; exact wrap_id _ (by omega) (by omega)
        have HS2 := hidG hS2
        have HDE := hidG hdec
        clear hS2 hdec hk hm
        go_wp2
        have hN := HY.out.lt
        obtain ⟨N, hNN⟩ : ∃ N, wr.heap.size = N := ⟨_, rfl⟩
        have hn1 := bx_new wr [.int .i64 0, .int .i64 0] 89
        have hn2 := HY.out.alloc (.cells #[.int .i64 0, .int .i64 0] 89)
        have hn3 := HX.out.alloc (.cells #[.int .i64 0, .int .i64 0] 89)
        have hn4 := HB.out.alloc HB.out.size (.cells #[.int .i64 0, .int .i64 0] 89)
        rw [hNN] at hn1 hN
        rw [hNN]
        have hn1' : Bx (wr.alloc (.cells #[.int .i64 0, .int .i64 0] 89)) N [.int .i64 0, .int .i64 0] := hn1
        have HE2 := hidG e2
        clear hn1 hNN e0 e1 e2 e3
        generalize wr.alloc (.cells #[.int .i64 0, .int .i64 0] 89) = W1 at *
        clear HX HY HB
        go_loopw [48] (fun iv wr => ∃ i u v : Int, iv = .int .i64 i ∧ ((i = 0 ∧ u = 0 ∧ v = 0) ∨ (i = 1 ∧ u = C' ∧ v = 0) ∨ (i = 2 ∧ u = C' ∧ v = D')) ∧ Bx wr N [.int .i64 u, .int .i64 v] ∧ Bx wr (w.heap.size + 1) [.int .i64 A, .int .i64 B, .int .i64 C, .int .i64 D] ∧ Bx wr w.heap.size [.int .i64 0, .int .i64 0, .int .i64 0, .int .i64 0] ∧ Below w.heap.size w wr)
          (fun iv _ => (2 - intOf iv).toNat)
        case atStart => exact ⟨0, 0, 0, rfl, .inl ⟨rfl, rfl, rfl⟩, hn1', hn2, hn3, hn4⟩
        case round =>
          clear hn1' hn2 hn3 hn4
          obtain ⟨i, u, v, rfl, hiuv, hn, hY, hX, hB⟩ := hrel
          have e0 := hY.cell 0
          have e1 := hY.cell 1
          have e2 := hY.cell 2
          have e3 := hY.cell 3
          have f0 := hn.cell 0
          have f1 := hn.cell 1
          simp only [List.getElem?_cons_zero, List.getElem?_cons_succ] at e0 e1 e2 e3 f0 f1
          have r0 := hn.frozen 0
          have r1 := hn.frozen 1
          have t0 := hY.frozen 0
          have t1 := hY.frozen 1
          have t2 := hY.frozen 2
          have t3 := hY.frozen 3
          have hs1 := hn.lt
          have hs2 := hY.lt
          have HN := hidG hn
          have HX := hidG hX
          have HY := hidG hY
          have HB := hidG hB
          clear hn hX hY hB
          rcases hiuv with ⟨rfl, rfl, rfl⟩ | ⟨rfl, rfl, rfl⟩ | ⟨rfl, rfl, rfl⟩
          · go_wp2
            go_region
            go_wp2
            go_roundw
            case rel => exact ⟨1, _, _, by go_num, .inr (.inl ⟨rfl, rfl, rfl⟩), (HN.out.set 0 _).drew, (HY.out.other _ (by show N ≠ _; omega) _).drew, (HX.out.other _ (by show N ≠ _; omega) _).drew, (HB.out.setCell (p := ⟨N, 0, none⟩) (by show _ ≤ N; omega) _).drew⟩
            case measure => simp [intOf]
          · go_wp2
            go_region
            go_wp2
            go_roundw
            case rel => exact ⟨2, _, _, by go_num, .inr (.inr ⟨rfl, rfl, rfl⟩), (HN.out.set 1 _).drew, (HY.out.other _ (by show N ≠ _; omega) _).drew, (HX.out.other _ (by show N ≠ _; omega) _).drew, (HB.out.setCell (p := ⟨N, 1, none⟩) (by show _ ≤ N; omega) _).drew⟩
            case measure => simp [intOf]
          · go_wp2
            go_region
            go_wp2
            have HY2 : Hid (Bx (((((wr.setCell ⟨w.heap.size + 1, 0, none⟩ (.int .i64 C)).setCell ⟨w.heap.size + 1, 1, none⟩ (.int .i64 D)).setCell ⟨w.heap.size + 1, 2, none⟩ (.int .i64 u)).setCell ⟨w.heap.size + 1, 3, none⟩ (.int .i64 v)).drew) (w.heap.size + 1) [.int .i64 C, .int .i64 D, .int .i64 u, .int .i64 v]) :=
              ((((HY.out.set 0 _).set 1 _).set 2 _).set 3 _).drew
            have HX2 : Hid (Bx (((((wr.setCell ⟨w.heap.size + 1, 0, none⟩ (.int .i64 C)).setCell ⟨w.heap.size + 1, 1, none⟩ (.int .i64 D)).setCell ⟨w.heap.size + 1, 2, none⟩ (.int .i64 u)).setCell ⟨w.heap.size + 1, 3, none⟩ (.int .i64 v)).drew) w.heap.size [.int .i64 0, .int .i64 0, .int .i64 0, .int .i64 0]) :=
              ((((HX.out.other ⟨w.heap.size + 1, 0, none⟩ (by simp) _).other ⟨w.heap.size + 1, 1, none⟩ (by simp) _).other ⟨w.heap.size + 1, 2, none⟩ (by simp) _).other ⟨w.heap.size + 1, 3, none⟩ (by simp) _).drew
            have HB2 : Hid (Below w.heap.size w (((((wr.setCell ⟨w.heap.size + 1, 0, none⟩ (.int .i64 C)).setCell ⟨w.heap.size + 1, 1, none⟩ (.int .i64 D)).setCell ⟨w.heap.size + 1, 2, none⟩ (.int .i64 u)).setCell ⟨w.heap.size + 1, 3, none⟩ (.int .i64 v)).drew)) :=
              ((((HB.out.setCell (p := ⟨w.heap.size + 1, 0, none⟩) (Nat.le_succ _) _).setCell (p := ⟨w.heap.size + 1, 1, none⟩) (Nat.le_succ _) _).setCell (p := ⟨w.heap.size + 1, 2, none⟩) (Nat.le_succ _) _).setCell (p := ⟨w.heap.size + 1, 3, none⟩) (Nat.le_succ _) _).drew
            go_roundw
            case rel => exact ⟨C, D, u, v, y, y', rfl, rfl, HS2.out, HX2.out, HY2.out, HB2.out⟩
            case measure =>
              have hnew := HY2.out.cell 2
              simp only [List.getElem?_cons_zero, List.getElem?_cons_succ] at hnew
              rw [hnew, HE2.out]
              have := HDE.out
              simp only [Option.getD_some, intOf]
              omega
      · have z3 : (k != m) = true := by rw [bne_iff_ne]; exact hkm
        have k0 := HX.out.cell 0
        have k1 := HX.out.cell 1
        have k2 := HX.out.cell 2
        have k3 := HX.out.cell 3
        simp only [List.getElem?_cons_zero, List.getElem?_cons_succ] at k0 k1 k2 k3
        have r0 := HX.out.frozen 0
        have r1 := HX.out.frozen 1
        have r2 := HX.out.frozen 2
        have r3 := HX.out.frozen 3
        go_wp2
        have hZ : Bx ((((wr.setCell ⟨w.heap.size, 0, none⟩ (.int .i64 A)).setCell ⟨w.heap.size, 1, none⟩ (.int .i64 B)).setCell ⟨w.heap.size, 2, none⟩ (.int .i64 C)).setCell ⟨w.heap.size, 3, none⟩ (.int .i64 D)) w.heap.size [.int .i64 A, .int .i64 B, .int .i64 C, .int .i64 D] := (((HX.out.set 0 _).set 1 _).set 2 _).set 3 _
        have hE : Below w.heap.size w ((((wr.setCell ⟨w.heap.size, 0, none⟩ (.int .i64 A)).setCell ⟨w.heap.size, 1, none⟩ (.int .i64 B)).setCell ⟨w.heap.size, 2, none⟩ (.int .i64 C)).setCell ⟨w.heap.size, 3, none⟩ (.int .i64 D)) := (((HB.out.setCell (p := ⟨w.heap.size, 0, none⟩) (Nat.le_refl _) _).setCell (p := ⟨w.heap.size, 1, none⟩) (Nat.le_refl _) _).setCell (p := ⟨w.heap.size, 2, none⟩) (Nat.le_refl _) _).setCell (p := ⟨w.heap.size, 3, none⟩) (Nat.le_refl _) _
        generalize (((wr.setCell ⟨w.heap.size, 0, none⟩ (.int .i64 A)).setCell ⟨w.heap.size, 1, none⟩ (.int .i64 B)).setCell ⟨w.heap.size, 2, none⟩ (.int .i64 C)).setCell ⟨w.heap.size, 3, none⟩ (.int .i64 D) = W5 at *
        have k0 := hZ.cell 0
        have k1 := hZ.cell 1
        have k2 := hZ.cell 2
        have k3 := hZ.cell 3
        simp only [List.getElem?_cons_zero, List.getElem?_cons_succ] at k0 k1 k2 k3
        refine bodyPost_ret (v := .agg #[.int .i64 A, .int .i64 B, .int .i64 C, .int .i64 D]) ?_ rfl ⟨A, B, C, D, rfl, ⟨x, y, HS.out⟩, hE⟩
        simp [results, Tryd.results69, go_sem, k0, k1, k2, k3]
    · by_cases g1 : 0 < y + C
      · have g2 : ¬ 0 < y + D := fun h => hg ⟨g1, h⟩
        have k0 := HX.out.cell 0
        have k1 := HX.out.cell 1
        have k2 := HX.out.cell 2
        have k3 := HX.out.cell 3
        simp only [List.getElem?_cons_zero, List.getElem?_cons_succ] at k0 k1 k2 k3
        have r0 := HX.out.frozen 0
        have r1 := HX.out.frozen 1
        have r2 := HX.out.frozen 2
        have r3 := HX.out.frozen 3
        go_wp2
        have hZ : Bx ((((wr.setCell ⟨w.heap.size, 0, none⟩ (.int .i64 A)).setCell ⟨w.heap.size, 1, none⟩ (.int .i64 B)).setCell ⟨w.heap.size, 2, none⟩ (.int .i64 C)).setCell ⟨w.heap.size, 3, none⟩ (.int .i64 D)) w.heap.size [.int .i64 A, .int .i64 B, .int .i64 C, .int .i64 D] := (((HX.out.set 0 _).set 1 _).set 2 _).set 3 _
        have hE : Below w.heap.size w ((((wr.setCell ⟨w.heap.size, 0, none⟩ (.int .i64 A)).setCell ⟨w.heap.size, 1, none⟩ (.int .i64 B)).setCell ⟨w.heap.size, 2, none⟩ (.int .i64 C)).setCell ⟨w.heap.size, 3, none⟩ (.int .i64 D)) := (((HB.out.setCell (p := ⟨w.heap.size, 0, none⟩) (Nat.le_refl _) _).setCell (p := ⟨w.heap.size, 1, none⟩) (Nat.le_refl _) _).setCell (p := ⟨w.heap.size, 2, none⟩) (Nat.le_refl _) _).setCell (p := ⟨w.heap.size, 3, none⟩) (Nat.le_refl _) _
        generalize (((wr.setCell ⟨w.heap.size, 0, none⟩ (.int .i64 A)).setCell ⟨w.heap.size, 1, none⟩ (.int .i64 B)).setCell ⟨w.heap.size, 2, none⟩ (.int .i64 C)).setCell ⟨w.heap.size, 3, none⟩ (.int .i64 D) = W5 at *
        have k0 := hZ.cell 0
        have k1 := hZ.cell 1
        have k2 := hZ.cell 2
        have k3 := hZ.cell 3
        simp only [List.getElem?_cons_zero, List.getElem?_cons_succ] at k0 k1 k2 k3
        refine bodyPost_ret (v := .agg #[.int .i64 A, .int .i64 B, .int .i64 C, .int .i64 D]) ?_ rfl ⟨A, B, C, D, rfl, ⟨x, y, HS.out⟩, hE⟩
        simp [results, Tryd.results69, go_sem, k0, k1, k2, k3]
      · have k0 := HX.out.cell 0
        have k1 := HX.out.cell 1
        have k2 := HX.out.cell 2
        have k3 := HX.out.cell 3
        simp only [List.getElem?_cons_zero, List.getElem?_cons_succ] at k0 k1 k2 k3
        have r0 := HX.out.frozen 0
        have r1 := HX.out.frozen 1
        have r2 := HX.out.frozen 2
        have r3 := HX.out.frozen 3
        go_wp2
        have hZ : Bx ((((wr.setCell ⟨w.heap.size, 0, none⟩ (.int .i64 A)).setCell ⟨w.heap.size, 1, none⟩ (.int .i64 B)).setCell ⟨w.heap.size, 2, none⟩ (.int .i64 C)).setCell ⟨w.heap.size, 3, none⟩ (.int .i64 D)) w.heap.size [.int .i64 A, .int .i64 B, .int .i64 C, .int .i64 D] := (((HX.out.set 0 _).set 1 _).set 2 _).set 3 _
        have hE : Below w.heap.size w ((((wr.setCell ⟨w.heap.size, 0, none⟩ (.int .i64 A)).setCell ⟨w.heap.size, 1, none⟩ (.int .i64 B)).setCell ⟨w.heap.size, 2, none⟩ (.int .i64 C)).setCell ⟨w.heap.size, 3, none⟩ (.int .i64 D)) := (((HB.out.setCell (p := ⟨w.heap.size, 0, none⟩) (Nat.le_refl _) _).setCell (p := ⟨w.heap.size, 1, none⟩) (Nat.le_refl _) _).setCell (p := ⟨w.heap.size, 2, none⟩) (Nat.le_refl _) _).setCell (p := ⟨w.heap.size, 3, none⟩) (Nat.le_refl _) _
        generalize (((wr.setCell ⟨w.heap.size, 0, none⟩ (.int .i64 A)).setCell ⟨w.heap.size, 1, none⟩ (.int .i64 B)).setCell ⟨w.heap.size, 2, none⟩ (.int .i64 C)).setCell ⟨w.heap.size, 3, none⟩ (.int .i64 D) = W5 at *
        have k0 := hZ.cell 0
        have k1 := hZ.cell 1
        have k2 := hZ.cell 2
        have k3 := hZ.cell 3
        simp only [List.getElem?_cons_zero, List.getElem?_cons_succ] at k0 k1 k2 k3
        refine bodyPost_ret (v := .agg #[.int .i64 A, .int .i64 B, .int .i64 C, .int .i64 D]) ?_ rfl ⟨A, B, C, D, rfl, ⟨x, y, HS.out⟩, hE⟩
        simp [results, Tryd.results69, go_sem, k0, k1, k2, k3]
end Go.Proofs.YtpjnglcojamfmaaDoor
namespace Go.Proofs.YtpjnglcojamfmaaDoor
open Go.ChangeShapes Go.WideShapes Go.ChangeAt Go.RowKit
set_option maxRecDepth 100000 in
set_option maxHeartbeats 1000000 in
theorem commonWord_any (x y : Nat) (w : World) (hx : x < 18446744073709551616) (hy : y < 18446744073709551616) :
    Calls Tryd.prog 72 #[.int .u64 (x : Nat), .int .u64 (y : Nat)] w fun e w' => e = .returned (.int .u64 (Nat.gcd x y : Nat)) ∧ Below w.heap.size w w' := by
  obtain ⟨d, hd⟩ : ∃ d, Nat.gcd x y = d := ⟨_, rfl⟩
  have HD : Hid (Nat.gcd x y = d) := hd
  rw [hd]
  clear hd
  go_enter Tryd.func72, Tryd.ntmps72
  go_wp2
  go_loopw [0, 1] (fun xv yv wr => ∃ a b : Nat, xv = .int .u64 (a : Nat) ∧ yv = .int .u64 (b : Nat) ∧ Nat.gcd a b = d ∧ a < 18446744073709551616 ∧ b < 18446744073709551616 ∧ Below w.heap.size w wr) (fun _ yv _ => (intOf yv).toNat)
  case atStart => exact ⟨x, y, rfl, rfl, HD.out, hx, hy, Below.refl _ _⟩
  case round =>
    obtain ⟨a, b, rfl, rfl, hg, ha, hb, hB⟩ := hrel
    have HG : Hid (Nat.gcd a b = d) := hg
    have HB : Hid (Below w.heap.size w wr) := hB
    clear hg hB
    by_cases h0 : b = 0
    · subst h0
      have HA : Hid (a = d) := by have := HG.out; rw [Nat.gcd_zero_right] at this; exact this
      go_wp2
      go_ret
      exact ⟨ret_int (by rw [HA.out]), HB.out⟩
    · have HG2 : Hid (Nat.gcd b (a % b) = d) := by
        show Nat.gcd b (a % b) = d
        rw [← HG.out, Nat.gcd_comm a b, Nat.gcd_rec b a, Nat.gcd_comm]
      have hml := Nat.mod_lt a (Nat.pos_of_ne_zero h0)
      obtain ⟨A, hA⟩ : ∃ A : Int, (a : Int) = A := ⟨_, rfl⟩
      obtain ⟨C, hC⟩ : ∃ C : Int, (b : Int) = C := ⟨_, rfl⟩
      have e1 : A % C = ((a % b : Nat) : Int) := by rw [← hA, ← hC]; rfl
      have HE : Hid (A % C = ((a % b : Nat) : Int)) := e1
      have HC : Hid ((b : Int) = C) := hC
      have HML : Hid (a % b < b ∧ b < 18446744073709551616) := ⟨hml, hb⟩
      have c1 : 0 < C := by omega
      have c2 : C < 18446744073709551616 := by omega
      have a1 : 0 ≤ A := by omega
      have a2 : A < 18446744073709551616 := by omega
      rw [hA, hC]
      clear e1 hA hC h0 hml ha hb
      go_wp2
      go_quiet (fail)
      go_wp2
      go_roundw
      case rel => exact ⟨b, a % b, val_int HC.out.symm, val_int HE.out, HG2.out, HML.out.2, by have := HML.out; omega, below_drewN HB.out _⟩
      case measure => simp [intOf]; have := HE.out; have := HC.out; have := HML.out.1; omega
end Go.Proofs.YtpjnglcojamfmaaDoor
namespace Go.Proofs.YtpjnglcojamfmaaDoor
open Go.ChangeShapes Go.WideShapes Go.ChangeAt Go.RowKit
theorem RowT.drewN {w : World} {R : Nat} {l : List Nat} (h : RowT w R l) (n : Nat) : RowT (w.drewN n) R l := by
  obtain ⟨t, h⟩ := h
  exact ⟨t, ((below_drewN (Below.refl _ w) n).block R (Array.getElem?_eq_some_iff.1 h).1).trans h⟩
theorem Bx.drewN {W : World} {g : Nat} {l : List Value} (h : Bx W g l) (n : Nat) : Bx (W.drewN n) g l := h.below h.lt (below_drewN (Below.refl _ W) n)
/-- One limb of a sum of two products: s = low + 1000000000 c'. -/
theorem comb_step (P VL VN c s x y f0 f1 Va Vb low c' : Int) (h : VL + P * c = f0 * Va + f1 * Vb) (hs : s = c + (f0 * x + f1 * y)) (hN : VN = VL + P * low) (hl : s = low + 1000000000 * c') :
    VN + P * 1000000000 * c' = f0 * (Va + P * x) + f1 * (Vb + P * y) := by
  have e1 : P * s = P * low + P * 1000000000 * c' := by rw [hl]; grind
  have e2 : P * s = P * c + f0 * (P * x) + f1 * (P * y) := by rw [hs]; grind
  rw [hN]
  grind
theorem mul_bd (f X : Int) (h1 : -1000000000 < f) (h2 : f < 1000000000) (h3 : 0 ≤ X) (h4 : X < 1000000000) : -999999998000000001 ≤ f * X ∧ f * X ≤ 999999998000000001 := by
  have e1 : f * X ≤ 999999999 * X := Int.mul_le_mul_of_nonneg_right (by omega) h3
  have e2 : -999999999 * X ≤ f * X := Int.mul_le_mul_of_nonneg_right (by omega) h3
  constructor <;> omega
theorem tdm (S : Int) : S = S.tmod 1000000000 + 1000000000 * S.tdiv 1000000000 := by
  have := Int.tmod_add_mul_tdiv S 1000000000
  omega
theorem tdm_bd (S : Int) : -1000000000 < S.tmod 1000000000 ∧ S.tmod 1000000000 < 1000000000 := by
  have h1 := Int.tmod_lt_of_pos S (show (0 : Int) < 1000000000 by decide)
  have h2 := Int.lt_tmod_of_pos S (show (0 : Int) < 1000000000 by decide)
  omega
theorem comb_end (P VL c V : Int) (h : VL + P * c = V) (h1 : 0 ≤ VL) (h2 : VL < P) (h3 : 0 ≤ V) (h4 : V < P) : c = 0 := by
  rcases Int.lt_trichotomy c 0 with h5 | h5 | h5
  · have := Int.mul_le_mul_of_nonneg_left (show c ≤ -1 by omega) (show 0 ≤ P by omega)
    omega
  · exact h5
  · have := Int.mul_le_mul_of_nonneg_left (show 1 ≤ c by omega) (show 0 ≤ P by omega)
    omega
set_option maxRecDepth 100000 in
set_option maxHeartbeats 2000000 in
theorem combine_any (B : Nat) (va vb : Value) (a b : List Nat) (f0 f1 : Int) (V : Nat) (w : World) (ha : IsL B w va a) (hb : IsL B w vb b) (hla : a.length ≤ 100000) (hlb : b.length ≤ a.length) (hf0 : -1000000000 < f0 ∧ f0 < 1000000000) (hf1 : -1000000000 < f1 ∧ f1 < 1000000000)
    (hV : f0 * val a + f1 * val b = V) (hVl : V < 1000000000 ^ a.length) :
    Calls Tryd.prog 71 #[va, vb, .agg #[.int .i64 f0, .int .i64 f1]] w fun e w' => ∃ v L, e = .returned v ∧ IsL w.heap.size w' v L ∧ isTrim L ∧ val L = V ∧ L.length ≤ a.length ∧ Below w.heap.size w w' := by
  obtain ⟨i0, hinf, hz0, hz1, hz2⟩ := info_parts Tryd.info_u32
  have HBL : Hid (∀ W, Below w.heap.size w W → IsL B W vb b) := fun W hW => hb.below hW
  obtain ⟨pa, ca, rfl, _⟩ := id ha
  obtain ⟨pb, cb, rfl, _⟩ := id hb
  obtain ⟨_, _, _, haok, hca⟩ := ha.cells
  obtain ⟨_, _, _, hbok, _⟩ := hb.cells
  have HA : Hid (∀ i, i < a.length → ∃ b off, pa = some ⟨b, off, none⟩ ∧ b < w.heap.size ∧ w.cell? ⟨b, off + i, none⟩ = some (.int .u32 (a.getD i 0 : Nat))) := hca
  clear hca ha hb
  go_enter Tryd.func71, Tryd.ntmps71
  go_wp2_with (at_make; refine wpList_make_full _ rfl _ _ 26 rfl w.heap.size 51 i0 (.int .u32 0) 1 Tryd.underlying26 hinf hz0 hz1 .i64 .i64 _ _ a.length rfl rfl (by first | rfl | omega) (by first | rfl | omega) (by first | omega | (rw [hz2]; omega)) (by unfold maxLen; omega) (by simp) ?_)
  intro w1 hown hgr
  first | rw [made_zero] at hown | rw [made_zero'] at hown
  have hR : RowT w1 (w.heap.size + 1) (List.replicate a.length 0) := (row_of_full hown).tail
  have hB1 : Below (w.heap.size + 1) (w.alloc (.cells #[.int .i64 f0, .int .i64 f1] 89)) w1 := (Below.refl _ _).grown hgr (by simp) (fun k h => by cases h)
  have hF : Bx w1 w.heap.size [.int .i64 f0, .int .i64 f1] := (bx_new w [.int .i64 f0, .int .i64 f1] 89).below (Nat.lt_succ_self _) hB1
  have hB2 : Below w.heap.size w w1 := (below_alloc w _).trans (hB1.mono (Nat.le_succ _))
  clear hown hgr hB1
  go_wp2
  go_loopw [8, 16] (fun cv iv wr => ∃ (i : Nat) (c : Int) (L : List Nat), i ≤ a.length ∧ cv = .int .i64 c ∧ iv = .int .i64 (i : Nat) ∧ (-2000000000 ≤ c ∧ c ≤ 2000000000) ∧ L.length = a.length ∧ okL L ∧ RowT wr (w.heap.size + 1) L ∧ Bx wr w.heap.size [.int .i64 f0, .int .i64 f1] ∧
      (val (L.take i) : Int) + (1000000000 ^ i : Nat) * c = f0 * val (a.take i) + f1 * val (b.take i) ∧ Below w.heap.size w wr) (fun _ iv _ => a.length - (intOf iv).toNat)
  case atStart => exact ⟨0, 0, _, Nat.zero_le _, rfl, rfl, by omega, by simp, fun x hx => by rw [List.eq_of_mem_replicate hx]; omega, hR, hF, by simp [val], hB2⟩
  case round =>
    clear hR hF hB2
    obtain ⟨i, c, L, hi, rfl, rfl, ⟨hc1, hc2⟩, hLl, hLok, hR, hF, hval, hB⟩ := hrel
    by_cases hia : i < a.length
    · obtain ⟨ba, oa, rfl, hla', hca⟩ := HA.out i hia
      rw [← hB.cell (p := ⟨ba, oa + i, none⟩) hla'] at hca
      have hxb := okL_getD a haok i hia
      have hyb := okL_getD' b hbok i
      obtain ⟨X, hX⟩ : ∃ X : Int, ((a.getD i 0 : Nat) : Int) = X := ⟨_, rfl⟩
      obtain ⟨Y, hY⟩ : ∃ Y : Int, ((b.getD i 0 : Nat) : Int) = Y := ⟨_, rfl⟩
      rw [hX] at hca
      obtain ⟨m1, m2⟩ := mul_bd f0 X hf0.1 hf0.2 (by omega) (by omega)
      obtain ⟨m3, m4⟩ := mul_bd f1 Y hf1.1 hf1.2 (by omega) (by omega)
      obtain ⟨S, hS⟩ : ∃ S, c + (f0 * X + f1 * Y) = S := ⟨_, rfl⟩
      obtain ⟨R, hRR⟩ : ∃ R, S.tmod 1000000000 = R := ⟨_, rfl⟩
      obtain ⟨Q, hQ⟩ : ∃ Q, S.tdiv 1000000000 = Q := ⟨_, rfl⟩
      have hdm := tdm S
      have hdb := tdm_bd S
      rw [hRR, hQ] at hdm
      rw [hRR] at hdb
      have x1 : 0 ≤ X ∧ X < 1000000000 := by omega
      have y1 : 0 ≤ Y ∧ Y < 1000000000 := by omega
      have HST : Hid (∀ (low : Nat) (c' : Int), S = low + 1000000000 * c' → (val ((L.set i low).take (i + 1)) : Int) + (1000000000 ^ (i + 1) : Nat) * c' = f0 * val (a.take (i + 1)) + f1 * val (b.take (i + 1))) := fun low c' hl => by
        rw [val_take_set L i low (by omega), val_take_succ a i, val_take_succ b i, Nat.pow_succ, Int.natCast_add, Int.natCast_add, Int.natCast_add, Int.natCast_mul, Int.natCast_mul, Int.natCast_mul, Int.natCast_mul, hX, hY]
        exact comb_step _ _ _ c S X Y f0 f1 _ _ low c' hval hS.symm rfl hl
      have u1 : IntKind.i64.wrap (f0 * X) = f0 * X := wrap_id _ (by omega) (by omega)
      have u2 : IntKind.i64.wrap (f1 * Y) = f1 * Y := wrap_id _ (by omega) (by omega)
      have u3 : IntKind.i64.wrap (f0 * X + f1 * Y) = f0 * X + f1 * Y := wrap_id _ (by omega) (by omega)
      have u4 : IntKind.i64.wrap (c + (f0 * X + f1 * Y)) = S := by rw [hS]; exact wrap_id _ (by omega) (by omega)
      have u5 : IntKind.i64.wrap (S.tmod 1000000000) = R := by rw [hRR]; exact wrap_id _ (by omega) (by omega)
      have u6 : IntKind.i64.wrap (S.tdiv 1000000000) = Q := by rw [hQ]; exact wrap_id _ (by omega) (by omega)
      have e0 := hF.cell 0
      have e1 := hF.cell 1
      simp only [List.getElem?_cons_zero, List.getElem?_cons_succ] at e0 e1
      have hcell := hR.cell i (by omega)
      have hfr := hR.frozen i
      have HY := hidG hY
      have HR := hidG hR
      have HF := hidG hF
      have HB := hidG hB
      have HOK := hidG hLok
      have HLL := hidG hLl
      have HI := hidG (HBL.out _ hB)
      have q1 : -1999999999 ≤ Q ∧ Q ≤ 1999999999 := by omega
      have HW1 : Hid (∀ (nq : Nat) (low : Nat), low < 1000000000 → RowT ((wr.drewN nq).setCell ⟨w.heap.size + 1, i, none⟩ (.int .u32 (low : Nat))) (w.heap.size + 1) (L.set i low) ∧ okL (L.set i low)) := fun nq low hl =>
        ⟨RowT.set (w := wr.drewN nq) (HR.out.drewN nq) i low (by have := HLL.out; omega), okL_set L HOK.out i low hl⟩
      have HW2 : Hid (∀ (nq : Nat) (u : Value), Bx ((wr.drewN nq).setCell ⟨w.heap.size + 1, i, none⟩ u) w.heap.size [.int .i64 f0, .int .i64 f1] ∧ Below w.heap.size w ((wr.drewN nq).setCell ⟨w.heap.size + 1, i, none⟩ u)) := fun nq u =>
        ⟨(HF.out.drewN nq).other _ (by simp) u, (below_drewN HB.out nq).setCell (p := ⟨w.heap.size + 1, i, none⟩) (Nat.le_succ _) u⟩
      have HDM := hidG hdm
      clear hR hF hB hLok hval hY hX hS hxb hyb hdm
      go_upto_region 6 with fail
      go_quiet (first | (go_at_call 86; refine Calls.quiet_of_same (limbAt_at B _ b _ i Y _ HI.out rfl (by omega) HY.out)))
      by_cases hneg : R < 0
      · have u7 : IntKind.i64.wrap (R + 1000000000) = R + 1000000000 := wrap_id _ (by omega) (by omega)
        have u8 : IntKind.i64.wrap (Q - 1) = Q - 1 := wrap_id _ (by omega) (by omega)
        obtain ⟨low, hlow⟩ : ∃ low : Nat, R + 1000000000 = (low : Int) := ⟨(R + 1000000000).toNat, by omega⟩
        have HLOW := hidG hlow
        have hll : low < 1000000000 := by omega
        clear hlow
        go_wp2
        rw [HLOW.out]
        go_roundw
        case rel => exact ⟨i + 1, Q - 1, L.set i low, by omega, rfl, by go_num, by omega, by rw [List.length_set]; exact HLL.out, (HW1.out nq low hll).2, (HW1.out nq low hll).1, (HW2.out nq _).1, HST.out low (Q - 1) (by have := HDM.out; have := HLOW.out; omega), (HW2.out nq _).2⟩
        case measure => simp [intOf]; omega
      · obtain ⟨low, hlow⟩ : ∃ low : Nat, R = (low : Int) := ⟨R.toNat, by omega⟩
        have HLOW := hidG hlow
        have hll : low < 1000000000 := by omega
        clear hlow
        go_wp2
        rw [HLOW.out]
        go_roundw
        case rel => exact ⟨i + 1, Q, L.set i low, by omega, rfl, by go_num, by omega, by rw [List.length_set]; exact HLL.out, (HW1.out nq low hll).2, (HW1.out nq low hll).1, (HW2.out nq _).1, HST.out low Q (by have := HDM.out; have := HLOW.out; omega), (HW2.out nq _).2⟩
        case measure => simp [intOf]; omega
    · obtain rfl : i = a.length := by omega
      rw [List.take_of_length_le (by omega), List.take_of_length_le (Nat.le_refl _), List.take_of_length_le hlb, hV] at hval
      have hP : ((val L : Nat) : Int) < ((1000000000 ^ a.length : Nat) : Int) := by
        have := val_lt L hLok
        rw [hLl] at this
        exact Int.ofNat_lt.2 this
      have hc0 := comb_end _ _ c V hval (Int.natCast_nonneg _) hP (Int.natCast_nonneg _) (Int.ofNat_lt.2 hVl)
      rw [hc0, Int.mul_zero, Int.add_zero] at hval
      have hvL : val L = V := Int.ofNat.inj hval
      have HI : Hid (IsL w.heap.size wr (.slice (some ⟨w.heap.size + 1, 0, none⟩) a.length a.length) L) := by
        have h := hR.isL (B := w.heap.size) (cap := a.length) (Nat.le_succ _) hLok (by omega) (by unfold maxLen; omega)
        rw [hLl] at h
        exact h
      have HT : Hid (val (trimL L) = V ∧ (trimL L).length ≤ a.length ∧ isTrim (trimL L)) := ⟨by rw [val_trimL]; exact hvL, by have := trimL_len L; omega, trimL_trim _⟩
      have HBE : Hid (Below w.heap.size w wr) := hB
      clear hval hR hB hLok hF hP hvL hV hVl
      go_wp2_with fail
      refine (trimLimbs_any w.heap.size _ L _ HI.out).mono ?_
      rintro e w5 ⟨v, rfl, hcut, rfl⟩
      have HW : Hid (IsL w.heap.size w5 v (trimL L)) := hcut _ _ HI.out
      obtain ⟨pv, cv, hv, _⟩ := HW.out
      subst hv
      clear hcut
      go_wp2
      go_ret
      exact ⟨_, _, rfl, HW.out, HT.out.2.2, HT.out.1, HT.out.2.1, HBE.out⟩
end Go.Proofs.YtpjnglcojamfmaaDoor
namespace Go.Proofs.YtpjnglcojamfmaaDoor
open Go.ChangeShapes Go.WideShapes Go.ChangeAt Go.RowKit
theorem lenOfLe (a b : List Nat) (ta : isTrim a) (ob : okL b) (h : val a ≤ val b) : a.length ≤ b.length := by
  by_cases ha : a = []
  · rw [ha]; exact Nat.zero_le _
  · have h1 := val_ge a ta ha
    have h2 := val_lt b ob
    have h3 : 1000000000 ^ (a.length - 1) < 1000000000 ^ b.length := by omega
    have h4 := (Nat.pow_lt_pow_iff_right (show 1 < 1000000000 by decide)).1 h3
    omega
theorem top_pos (a : List Nat) (n : Nat) (h : a.length = n + 1) (ta : isTrim a) : 1 ≤ a.getD n 0 := by
  have hne : a ≠ [] := by rintro rfl; simp at h
  have := ta hne
  rw [List.getLast_eq_getElem] at this
  rw [List.getD_eq_getElem?_getD, List.getElem?_eq_getElem (by omega)]
  simp only [h, Nat.add_sub_cancel] at this
  simp only [Option.getD_some]
  omega
theorem eqArr (a b c d : Int) (w : World) : (Op.equalIn 10000 89 (.agg #[.int .i64 a, .int .i64 b]) (.agg #[.int .i64 c, .int .i64 d])).run Tryd.prog w = .ok (a == c && b == d) w := by
  have u3 := Tryd.underlying2
  have a3 := Tryd.isAgg2
  have z3 := Tryd.sizeOf2
  rw [show (10000 : Nat) = 9999 + 1 from rfl, Op.equalIn]
  simp only [Sem.run_bind, run_underlying Tryd.underlying89, Result.andThen_ok]
  simp only [Std.Legacy.Range.forIn_eq_forIn_range', Std.Legacy.Range.size, Nat.sub_zero, Nat.add_sub_cancel, Nat.div_one, List.range'_succ, List.range'_zero, List.forIn_cons, List.forIn_nil]
  go_simp
  by_cases h1 : a = c <;> by_cases h2 : b = d <;> simp [h1, h2]
theorem gcd_div (a b q r : Nat) (h : a = q * b + r) : Nat.gcd b r = Nat.gcd a b := by
  rw [h, Nat.gcd_comm (q * b + r) b, Nat.gcd_rec b (q * b + r), Nat.mul_comm, Nat.mul_add_mod, Nat.gcd_rec b r]
theorem below_alloc_of {N : Nat} (w : World) (o : Obj) (h : N ≤ w.heap.size) : Below N w (w.alloc o) := (Below.refl _ w).alloc h o
/-- What holds ahead of each round: the pair's numbers, the greater first; k is the lesser one. -/
def Pairs (B n d : Nat) (w0 : World) (k : Nat) (av bv : Value) (wr : World) : Prop :=
  ∃ A L : List Nat, (IsL B wr av A ∧ IsL B wr bv L) ∧ (isTrim A ∧ isTrim L) ∧ (val L ≤ val A ∧ val L = k) ∧ Nat.gcd (val A) (val L) = d ∧ A.length ≤ n ∧ Below w0.heap.size w0 wr
set_option maxRecDepth 100000 in
set_option maxHeartbeats 4000000 in
theorem commonLimbs_any (B : Nat) (va vb : Value) (a b : List Nat) (n : Nat) (w : World) (hBw : B ≤ w.heap.size) (ha : IsL B w va a) (hb : IsL B w vb b) (ta : isTrim a) (tb : isTrim b) (hla : a.length ≤ n) (hlb : b.length ≤ n) (hn : n ≤ 90000) (hNS : NS w) :
    Calls Tryd.prog 52 #[va, vb] w fun e w' => ∃ v L, e = .returned v ∧ IsL B w' v L ∧ isTrim L ∧ val L = Nat.gcd (val a) (val b) ∧ Below w.heap.size w w' := by
  have HA : Hid (IsL B w va a) := ha
  have HB : Hid (IsL B w vb b) := hb
  have HNS := hidG hNS
  have HT : Hid (isTrim a ∧ isTrim b) := ⟨ta, tb⟩
  have HBW := hidG hBw
  obtain ⟨pa, ca, rfl, _, _, oa, _⟩ := ha
  obtain ⟨pb, cb, rfl, _, _, ob, _⟩ := hb
  obtain ⟨d, hd⟩ : ∃ d, Nat.gcd (val a) (val b) = d := ⟨_, rfl⟩
  rw [hd]
  have HD := hidG hd
  obtain ⟨c, hc⟩ : ∃ c, cmpL a b = c := ⟨_, rfl⟩
  have HC := hidG hc
  have hcb : -1 ≤ c ∧ c ≤ 1 := by rw [← hc]; exact cmpL_bd a b
  have HORD : Hid (if c < 0 then val a ≤ val b else val b ≤ val a) := by
    show if c < 0 then val a ≤ val b else val b ≤ val a
    rw [← hc, cmpL_ord a b oa ob ta tb]
    unfold ord
    split
    · rw [if_pos (by decide)]; omega
    · split
      · rw [if_neg (by decide)]; omega
      · rw [if_neg (by decide)]; omega
  clear hd hc ta tb hNS hBw oa ob
  by_cases hlt : c < 0
  all_goals
    go_enter Tryd.func52, Tryd.ntmps52
    go_wp2_with fail
    refine (compareLimbs_any B _ _ a b _ HA.out HB.out).mono ?_
    rintro e w1 ⟨rfl, hb1⟩
    rw [HC.out]
    have HB1 := hidG hb1
    clear hb1
    go_wp2
    go_loopg [0, 1] (min (val a) (val b)) (Pairs B n d w)
    case atStart =>
      have h := HORD.out
      first
        | (rw [if_pos hlt] at h
           rw [Nat.min_eq_left h]
           exact ⟨b, a, ⟨HB.out.below HB1.out, HA.out.below HB1.out⟩, ⟨HT.out.2, HT.out.1⟩, ⟨h, rfl⟩, by rw [Nat.gcd_comm]; exact HD.out, hlb, HB1.out⟩)
        | (rw [if_neg (by omega)] at h
           rw [Nat.min_eq_right h]
           exact ⟨a, b, ⟨HA.out.below HB1.out, HB.out.below HB1.out⟩, ⟨HT.out.1, HT.out.2⟩, ⟨h, rfl⟩, HD.out, hla, HB1.out⟩)
    case round =>
      obtain ⟨A, L, ⟨hA, hL⟩, ⟨tA, tL⟩, ⟨hle, hk⟩, hg, hlA, hB⟩ := hrel
      obtain ⟨p1, c1, rfl, _, _, oA, _⟩ := id hA
      obtain ⟨p2, c2, rfl, _, _, oL, _⟩ := id hL
      have HAA := hidG hA
      have HLL := hidG hL
      have HP : Hid ((isTrim A ∧ isTrim L) ∧ (val L ≤ val A ∧ val L = gk) ∧ Nat.gcd (val A) (val L) = d ∧ (okL A ∧ okL L) ∧ L.length ≤ A.length) := ⟨⟨tA, tL⟩, ⟨hle, hk⟩, hg, ⟨oA, oL⟩, lenOfLe L A tL oA hle⟩
      have HBR := hidG hB
      have HNS1 := hidG (HNS.out.below hB)
      clear hA hL tA tL hle hk hg hB oA oL
      by_cases h2 : A.length ≤ 2
      · have HV : Hid (val A < 1000000000000000000 ∧ val L < 1000000000000000000) := by
          have h1 := val_lt A HP.out.2.2.2.1.1
          have h3 := Nat.pow_le_pow_right (show 0 < 1000000000 by decide) h2
          have h4 := HP.out.2.1.1
          have h5 : (1000000000 : Nat) ^ 2 = 1000000000000000000 := by decide
          show val A < 1000000000000000000 ∧ val L < 1000000000000000000
          omega
        go_wp2_with fail
        refine (wordOf_any B _ A _ HAA.out).mono ?_
        rintro e w2 ⟨rfl, hb2⟩
        rw [m64_small _ (by have := HV.out.1; omega)]
        have HB2 := hidG hb2
        clear hb2
        go_wp2_with fail
        refine (wordOf_any B _ L _ (HLL.out.below HB2.out)).mono ?_
        rintro e w3 ⟨rfl, hb3⟩
        rw [m64_small _ (by have := HV.out.2; omega)]
        have HB3 := hidG (HB2.out.trans (hb3.mono HB2.out.size))
        clear hb3
        go_wp2_with fail
        refine (commonWord_any (val A) (val L) _ (by have := HV.out.1; omega) (by have := HV.out.2; omega)).mono ?_
        rintro e w4 ⟨rfl, hb4⟩
        rw [HP.out.2.2.1]
        have HB4 := hidG (HB3.out.trans (hb4.mono HB3.out.size))
        have hd64 : Hid (d < 18446744073709551616) := by
          have h1 := HP.out.2.2.1
          by_cases h0 : val A = 0
          · rw [h0, Nat.gcd_zero_left] at h1
            have := HV.out.2
            show d < 18446744073709551616
            omega
          · have h3 := Nat.gcd_le_left (val L) (Nat.pos_of_ne_zero h0)
            have := HV.out.1
            show d < 18446744073709551616
            omega
        clear hb4
        go_wp2_with fail
        refine (limbsOf_trim d _ hd64.out).mono ?_
        rintro e w5 ⟨v, t, rfl, hv, ht, hvt, _, hb5⟩
        have HBE := hidG (HBR.out.trans ((HB4.out.trans (hb5.mono HB4.out.size)).mono HBR.out.size))
        have HVV : Hid (IsL B w5 v t) := hv.mono (by have := HBR.out.size; have := HB4.out.size; have := HBW.out; omega)
        have HTT : Hid (isTrim t ∧ val t = d) := ⟨ht, hvt⟩
        obtain ⟨pv, cv, hvv, _⟩ := hv
        subst hvv
        clear ht hvt hb5
        go_wp2
        go_ret
        exact ⟨_, t, rfl, HVV.out, HTT.out.1, HTT.out.2, HBE.out⟩
      · by_cases h0 : L.length = 0
        · have HG : Hid (val A = d) := by
            have h1 := HP.out.2.2.1
            rw [List.eq_nil_of_length_eq_zero h0] at h1
            show val A = d
            simpa [val] using h1
          go_wp2_with fail
          go_ret
          exact ⟨_, A, rfl, HAA.out, HP.out.1.1, HG.out, HBR.out⟩
        · obtain ⟨m, hm⟩ : ∃ m, A.length = m + 3 := ⟨A.length - 3, by omega⟩
          have HM := hidG hm
          have hmm : m ≤ 90000 := by omega
          have hL0 : ((L.length : Int) == 0) = false := by rw [beq_eq_false_iff_ne]; omega
          clear hm
          go_wp2_with fail
          refine (leadingWords_any B _ _ A L m _ HAA.out HLL.out (by omega) HM.out (by have := HP.out.2.2.2.2; have := HM.out; omega) (top_pos A (m + 2) HM.out HP.out.1.1) HP.out.2.1.1).mono ?_
          rintro e w2 ⟨x0, y0, rfl, hlead, hb2⟩
          have HLEAD := hidG hlead
          have HB2 := hidG hb2
          have HX : Hid (x0 < 1000000000000000000 ∧ y0 ≤ x0) := by
            obtain ⟨_, _, _, _, _, _, _, h1, h2⟩ := hlead
            exact ⟨h1, h2⟩
          clear hlead hb2
          go_wp2_with fail
          refine (leadingSteps_any x0 y0 _ HX.out.1 HX.out.2 (HNS1.out.below HB2.out)).mono ?_
          rintro e w3 ⟨fA, fB, fC, fD, rfl, hst, hb3⟩
          have HST := hidG hst
          have HB3 := hidG (HB2.out.trans (hb3.mono HB2.out.size))
          obtain ⟨n0, n1, n2, n3⟩ := HNS1.out.below HB3.out
          have hlt2 := cell_lt n0
          clear hst hb3
          by_cases hno : fA = 1 ∧ fB = 0
          · obtain ⟨rfl, rfl⟩ := hno
            have hq : ∀ W, (Op.equalIn 10000 89 (.agg #[.int .i64 1, .int .i64 0]) (.agg #[.int .i64 1, .int .i64 0])).run Tryd.prog W = .ok true W := fun W => eqArr 1 0 1 0 W
            go_wp2_with fail
            refine (divLimbs_any B _ _ A L _ (by have := HBW.out; have := HBR.out.size; have := HB3.out.size; simp; omega) (HAA.out.below (HB3.out.trans (below_alloc_of _ _ HB3.out.size))) (HLL.out.below (HB3.out.trans (below_alloc_of _ _ HB3.out.size))) (by omega) HP.out.1.1 HP.out.1.2 (fun h => h0 (by rw [h]; rfl))).mono ?_
            rintro e w5 ⟨v, u, Q, U, rfl, ⟨⟨_, hu⟩, ⟨_, htu⟩, _, hval, hlt3⟩, hb5⟩
            have hb5' : Below wr.heap.size wr w5 := (HB3.out.trans (below_alloc_of _ _ HB3.out.size)).trans (hb5.mono (by have := HB3.out.size; simp; omega))
            have HNX : Hid (Pairs B n d w (val U) (.slice p2 L.length c2) u w5) :=
              ⟨L, U, ⟨HLL.out.below hb5', hu⟩, ⟨HP.out.1.2, htu⟩, ⟨by omega, rfl⟩, by rw [← HP.out.2.2.1]; exact gcd_div _ _ _ _ hval, by have := HP.out.2.2.2.2; omega, HBR.out.trans (hb5'.mono HBR.out.size)⟩
            have HDC : Hid (val U < gk) := by show val U < gk; have := HP.out.2.1.2; omega
            obtain ⟨pu, cu, hu', _⟩ := hu
            subst hu'
            clear htu hval hlt3 hb5 hb5'
            go_wp2
            go_roundg (val U)
            case measure => exact HDC.out
            case rel => exact HNX.out
          · have hq : ∀ W, (Op.equalIn 10000 89 (.agg #[.int .i64 fA, .int .i64 fB]) (.agg #[.int .i64 1, .int .i64 0])).run Tryd.prog W = .ok false W := fun W => by
              rw [eqArr]
              congr 1
              rw [Bool.and_eq_false_iff, beq_eq_false_iff_ne, beq_eq_false_iff_ne]
              by_cases h : fA = 1
              · exact .inr fun h' => hno ⟨h, h'⟩
              · exact .inl h
            obtain ⟨W4, hW4⟩ : ∃ W4, w3.alloc (.cells #[.int .i64 fA, .int .i64 fB, .int .i64 fC, .int .i64 fD] 91) = W4 := ⟨_, rfl⟩
            have hbx : Bx W4 w3.heap.size [.int .i64 fA, .int .i64 fB, .int .i64 fC, .int .i64 fD] := by rw [← hW4]; exact bx_new w3 _ _
            have hB4 : Below wr.heap.size wr W4 := by rw [← hW4]; exact HB3.out.trans (below_alloc_of _ _ HB3.out.size)
            have HW4 := hidG hW4
            have HB4 := hidG hB4
            have HBX : Hid (∀ W, Below W4.heap.size W4 W → W.cell? ⟨w3.heap.size, 0, none⟩ = some (.int .i64 fA) ∧ W.cell? ⟨w3.heap.size, 1, none⟩ = some (.int .i64 fB) ∧ W.cell? ⟨w3.heap.size, 2, none⟩ = some (.int .i64 fC) ∧ W.cell? ⟨w3.heap.size, 3, none⟩ = some (.int .i64 fD)) := fun W hW => by
              have h := hbx.below hbx.lt hW
              exact ⟨h.cell 0, h.cell 1, h.cell 2, h.cell 3⟩
            have HAW : Hid (∀ W, Below W4.heap.size W4 W → (IsL B W (.slice p1 A.length c1) A ∧ IsL B W (.slice p2 L.length c2) L) ∧ Below wr.heap.size wr W) := fun W hW => by
              have hh := HB4.out.trans (hW.mono HB4.out.size)
              exact ⟨⟨HAA.out.below hh, HLL.out.below hh⟩, hh⟩
            obtain ⟨xf, yf, hsti⟩ := HST.out
            have hbd := stI_bd x0 y0 fA fB fC fD xf yf hsti HX.out.1 HX.out.2
            obtain ⟨SS, a', b', ea, eb, la', lb', _, _⟩ := HLEAD.out
            obtain ⟨a1, b1, hc1, hc2, hgc, hb1a, ha1⟩ := stI_made x0 y0 fA fB fC fD xf yf SS (val A) (val L) a' b' hsti hno ea eb la' lb'
            have hpw : val A < 1000000000 ^ A.length := val_lt A HP.out.2.2.2.1.1
            have HMD : Hid ((fA * (val A : Nat) + fB * (val L : Nat) = (a1 : Nat) ∧ a1 < 1000000000 ^ A.length) ∧ (fC * (val A : Nat) + fD * (val L : Nat) = (b1 : Nat) ∧ b1 < 1000000000 ^ A.length) ∧ Nat.gcd a1 b1 = d ∧ b1 < a1 ∧ b1 < gk) := by
              have h1 := HP.out.2.1
              exact ⟨⟨hc1, by omega⟩, ⟨hc2, by omega⟩, hgc.trans HP.out.2.2.1, hb1a, by omega⟩
            have HF : Hid (((-1000000000 < fA ∧ fA < 1000000000) ∧ (-1000000000 < fB ∧ fB < 1000000000)) ∧ (-1000000000 < fC ∧ fC < 1000000000) ∧ (-1000000000 < fD ∧ fD < 1000000000)) := ⟨⟨hbd.1, hbd.2.1⟩, hbd.2.2.1, hbd.2.2.2.1⟩
            have HLL2 : Hid (L.length ≤ A.length ∧ A.length ≤ 100000) := ⟨HP.out.2.2.2.2, by omega⟩
            clear hsti hbd ea eb la' lb' hc1 hc2 hgc hb1a ha1 hpw hbx hB4 hW4
            go_upto_region 10 with fail
            rw [HW4.out]
            obtain ⟨c0, c1', c2', c3⟩ := HBX.out W4 (Below.refl _ _)
            go_region_with (first
              | (go_at_call_of 71 (Value.int IntKind.i64 fA)
                 refine (combine_any B _ _ A L fA fB a1 _ (HAW.out _ (Below.refl _ W4).drew).1.1 (HAW.out _ (Below.refl _ W4).drew).1.2 HLL2.out.2 HLL2.out.1 HF.out.1.1 HF.out.1.2 HMD.out.1.1 HMD.out.1.2).mono ?_
                 rintro e w5 ⟨v1, L1, rfl, hv1, ht1, hvl1, hln1, hb5⟩
                 have HB5 : Hid (Below W4.heap.size W4 w5) := (Below.refl _ W4).drew.trans hb5
                 have HV1 : Hid (IsL W4.heap.size w5 v1 L1 ∧ isTrim L1 ∧ val L1 = a1 ∧ L1.length ≤ A.length) := ⟨hv1, ht1, hvl1, hln1⟩
                 obtain ⟨c0', c1'', c2'', c3'⟩ := HBX.out w5 HB5.out
                 clear hv1 ht1 hvl1 hln1 hb5)
              | (go_at_call_of 71 (Value.int IntKind.i64 fC)
                 refine (combine_any B _ _ A L fC fD b1 _ (HAW.out _ HB5.out).1.1 (HAW.out _ HB5.out).1.2 HLL2.out.2 HLL2.out.1 HF.out.2.1 HF.out.2.2 HMD.out.2.1.1 HMD.out.2.1.2).mono ?_
                 rintro e w6 ⟨v2, L2, rfl, hv2, ht2, hvl2, hln2, hb6⟩
                 have HB6 : Hid (Below w5.heap.size w5 w6) := hb6
                 have HV2 : Hid (IsL w5.heap.size w6 v2 L2 ∧ isTrim L2 ∧ val L2 = b1 ∧ L2.length ≤ A.length) := ⟨hv2, ht2, hvl2, hln2⟩
                 clear hv2 ht2 hvl2 hln2 hb6))
            all_goals
              have HNX : Hid (Pairs B n d w b1 v1 v2 w6) := by
                have s1 := HBW.out
                have s2 := HBR.out.size
                have s3 := HB4.out.size
                have s4 := HB5.out.size
                exact ⟨L1, L2, ⟨(HV1.out.1.below HB6.out).mono (by omega), HV2.out.1.mono (by omega)⟩, ⟨HV1.out.2.1, HV2.out.2.1⟩, ⟨by rw [HV1.out.2.2.1, HV2.out.2.2.1]; exact Nat.le_of_lt HMD.out.2.2.2.1, HV2.out.2.2.1⟩, by rw [HV1.out.2.2.1, HV2.out.2.2.1]; exact HMD.out.2.2.1, by have := HV1.out.2.2.2; omega,
                  HBR.out.trans ((HB4.out.trans ((HB5.out.trans (HB6.out.mono s4)).mono s3)).mono s2)⟩
              try simp only [List.getElem_toArray, List.getElem_cons_succ, List.getElem_cons_zero, Act.put, List.setIfInBounds_toArray, List.set_cons_succ, List.set_cons_zero]
              go_wp2
              go_roundg b1
              case measure => exact HMD.out.2.2.2.2
              case rel => exact HNX.out
end Go.Proofs.YtpjnglcojamfmaaDoor
namespace Go.Proofs.YtpjnglcojamfmaaDoor
open Go.ChangeShapes Go.WideShapes Go.ChangeAt Go.RowKit
def gcdI (x y : Int) : Int := ((Int.gcd x y : Nat) : Int)
theorem sg_abs (n : Bool) (v : Nat) : (sg n v).natAbs = v := by cases n <;> simp [sg]
theorem gcdI_sg (na nb : Bool) (a b : Nat) : gcdI (sg na a) (sg nb b) = ((Nat.gcd a b : Nat) : Int) := by
  unfold gcdI Int.gcd
  rw [sg_abs, sg_abs]
theorem gcd_len (a b L : List Nat) (n : Nat) (tL : isTrim L) (oa : okL a) (ob : okL b) (hv : val L = Nat.gcd (val a) (val b)) (ha : a.length ≤ n) (hb : b.length ≤ n) : L.length ≤ n := by
  by_cases h0 : val a = 0
  · rw [h0, Nat.gcd_zero_left] at hv
    have := lenOfLe L b tL ob (by omega)
    omega
  · have h1 := Nat.gcd_le_left (val b) (Nat.pos_of_ne_zero h0)
    have := lenOfLe L a tL oa (by omega)
    omega
set_option maxRecDepth 100000 in
set_option maxHeartbeats 1000000 in
theorem commonDivisor_any (B : Nat) (za zb : Value) (x y : Int) (n : Nat) (w : World) (hBw : B ≤ w.heap.size) (ha : IsI B w za x n) (hb : IsI B w zb y n) (hn : n ≤ 90000) (hNS : NS w) :
    Calls Tryd.prog 33 #[za, zb] w fun e w' => ∃ z, e = .returned z ∧ IsI B w' z (gcdI x y) n ∧ Below w.heap.size w w' := by
  obtain ⟨na, va, a, rfl, hva, ta, rfl, hla⟩ := ha
  obtain ⟨nb, vb, b, rfl, hvb, tb, rfl, hlb⟩ := hb
  rw [gcdI_sg]
  have HVA := hidG hva
  have HVB := hidG hvb
  have HNS := hidG hNS
  have HBW := hidG hBw
  have HTA : Hid (isTrim a ∧ isTrim b) := ⟨ta, tb⟩
  obtain ⟨pa, ca, rfl, _, _, oa, _⟩ := hva
  obtain ⟨pb, cb, rfl, _, _, ob, _⟩ := hvb
  have HOK : Hid (okL a ∧ okL b) := ⟨oa, ob⟩
  clear ta tb hNS hBw oa ob
  obtain ⟨W0, hW0⟩ : ∃ W0, ((w.alloc (.cells #[.bool (negOf na a), .slice pa a.length ca] 33)).alloc (.cells #[.bool (negOf nb b), .slice pb b.length cb] 33)).alloc (.cells #[.bool false, .slice none 0 0] 33) = W0 := ⟨_, rfl⟩
  have HW0 := hidG hW0
  have HB0 : Hid (Below w.heap.size w W0) := by
    show Below w.heap.size w W0
    rw [← hW0]; exact below_al (below_al (below_alloc _ _) _) _
  have hbx : Bx W0 (w.heap.size + 1 + 1) [.bool false, .slice none 0 0] := by
    rw [← hW0]
    have h := bx_new ((w.alloc (.cells #[.bool (negOf na a), .slice pa a.length ca] 33)).alloc (.cells #[.bool (negOf nb b), .slice pb b.length cb] 33)) [.bool false, .slice none 0 0] 33
    rw [World.size_alloc, World.size_alloc] at h
    exact h
  have HBX : Hid (∀ W, Below W0.heap.size W0 W → Bx W (w.heap.size + 1 + 1) [.bool false, .slice none 0 0]) := fun W hW => hbx.below hbx.lt hW
  clear hW0 hbx
  go_enter Tryd.func33, Tryd.ntmps33
  go_wp2_with fail
  rw [HW0.out]
  refine (commonLimbs_any B _ _ a b n _ (by have := HBW.out; have := HB0.out.size; omega) (HVA.out.below HB0.out) (HVB.out.below HB0.out) HTA.out.1 HTA.out.2 hla hlb hn (HNS.out.below HB0.out)).mono ?_
  rintro e w1 ⟨v, L, rfl, hv, tL, hval, hb1⟩
  have HV := hidG hv
  have HB1 := hidG hb1
  have HL : Hid (isTrim L ∧ val L = Nat.gcd (val a) (val b) ∧ L.length ≤ n) := ⟨tL, hval, gcd_len a b L n tL HOK.out.1 HOK.out.2 hval hla hlb⟩
  obtain ⟨pv, cv, hvv, _⟩ := hv
  subst hvv
  clear tL hval hb1
  go_wp2_with fail
  refine (makeInteger_any B false _ L _ HV.out).mono ?_
  rintro e w2 ⟨v', rfl, hcut, hb2⟩
  have HV2 : Hid (IsL B w2 v' L) := by
    have h := hcut _ _ (HV.out.below hb2)
    rw [trimL_of_trim L HL.out.1] at h
    exact h
  have HB2 := hidG (HB1.out.trans (hb2.mono HB1.out.size))
  have e1 : negOf false (trimL L) = false := by unfold negOf; rfl
  rw [e1]
  have hb := HBX.out w2 HB2.out
  have k0 := hb.cell 0
  have k1 := hb.cell 1
  simp only [List.getElem?_cons_zero, List.getElem?_cons_succ] at k0 k1
  have r0 := hb.frozen 0
  have r1 := hb.frozen 1
  obtain ⟨p2, c2, hv2, _⟩ := HV2.out
  subst hv2
  clear hcut hb2 hb e1
  go_wp2
  have hbw := HBX.out w2 HB2.out
  have hno : NoInt w2 (w.heap.size + 1 + 1) := fun i x => by
    rw [hbw.cell i]
    match i with
    | 0 => simp
    | 1 => simp
    | i + 2 => simp
  have kk : Keeps (w.heap.size + 1 + 1) (w.heap.size + 1 + 1) w2 ((w2.setCell ⟨w.heap.size + 1 + 1, 0, none⟩ (.bool false)).setCell ⟨w.heap.size + 1 + 1, 1, none⟩ (.slice p2 L.length c2)) :=
    Keeps.setCell (Keeps.setCell (Keeps.refl _ _ w2) ⟨w.heap.size + 1 + 1, 0, none⟩ (.bool false) (Or.inl rfl)) ⟨w.heap.size + 1 + 1, 1, none⟩ (.slice p2 L.length c2) (Or.inl rfl)
  have hLL := HV2.out.keeps hno hno kk
  have hZ : Bx ((w2.setCell ⟨w.heap.size + 1 + 1, 0, none⟩ (.bool false)).setCell ⟨w.heap.size + 1 + 1, 1, none⟩ (.slice p2 L.length c2)) (w.heap.size + 1 + 1) [.bool false, .slice p2 L.length c2] := (hbw.set 0 _).set 1 _
  have hE : Below w.heap.size w ((w2.setCell ⟨w.heap.size + 1 + 1, 0, none⟩ (.bool false)).setCell ⟨w.heap.size + 1 + 1, 1, none⟩ (.slice p2 L.length c2)) :=
    ((HB0.out.trans (HB2.out.mono HB0.out.size)).setCell (p := ⟨w.heap.size + 1 + 1, 0, none⟩) (by show _ ≤ w.heap.size + 1 + 1; omega) _).setCell (p := ⟨w.heap.size + 1 + 1, 1, none⟩) (by show _ ≤ w.heap.size + 1 + 1; omega) _
  generalize (w2.setCell ⟨w.heap.size + 1 + 1, 0, none⟩ (.bool false)).setCell ⟨w.heap.size + 1 + 1, 1, none⟩ (.slice p2 L.length c2) = WE at *
  have m0 := hZ.cell 0
  have m1 := hZ.cell 1
  simp only [List.getElem?_cons_zero, List.getElem?_cons_succ] at m0 m1
  refine bodyPost_ret (v := .agg #[.bool false, .slice p2 L.length c2]) ?_ rfl ⟨_, rfl, ⟨false, _, L, by unfold negOf; rfl, hLL, HL.out.1, by rw [HL.out.2.1]; rfl, HL.out.2.2⟩, hE⟩
  simp [results, Tryd.results33, go_sem, m0, m1]
end Go.Proofs.YtpjnglcojamfmaaDoor

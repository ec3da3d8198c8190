import Derived.Test.YtfhgfclfhghlcaaDoorCmpL
import Derived.Test.YtfhgfclfhghlcaaDoorSpecMake
namespace Go.Proofs.YtfhgfclfhghlcaaDoor
open Go.RowKit
/-! Limbs and the numbers that they stand for. -/
def ord (x y : Nat) : Int := if x < y then -1 else if y < x then 1 else 0
def ordI (x y : Int) : Int := if x < y then -1 else if y < x then 1 else 0
theorem val_append (a b : List Nat) : val (a ++ b) = val a + 1000000000 ^ a.length * val b := by
  induction a with
  | nil => simp [val]
  | cons x a ih =>
    simp only [List.cons_append, val, ih, List.length_cons, Nat.pow_succ]
    rw [Nat.mul_add, Nat.mul_comm (1000000000 ^ a.length) 1000000000, Nat.mul_assoc]
    omega
theorem val_lt (a : List Nat) (h : okL a) : val a < 1000000000 ^ a.length := by
  induction a with
  | nil => simp [val]
  | cons x a ih =>
    have h1 := h x (by simp)
    have h2 := ih (fun y hy => h y (by simp [hy]))
    simp only [val, List.length_cons, Nat.pow_succ]
    omega
theorem val_snoc (a : List Nat) (x : Nat) : val (a ++ [x]) = val a + 1000000000 ^ a.length * x := by rw [val_append]; simp [val]
theorem val_ge (a : List Nat) (htr : isTrim a) (hne : a ≠ []) : 1000000000 ^ (a.length - 1) ≤ val a := by
  have h := htr hne
  rw [← List.dropLast_concat_getLast hne] 
  rw [val_snoc]
  simp only [List.length_append, List.length_cons, List.length_nil, List.length_dropLast]
  have : a.length - 1 + (0 + 1) - 1 = a.length - 1 := by omega
  rw [this]
  have h2 : 1000000000 ^ (a.length - 1) * 1 ≤ 1000000000 ^ (a.length - 1) * a.getLast hne := Nat.mul_le_mul_left _ (Nat.pos_of_ne_zero h)
  omega
theorem val_pos (a : List Nat) (htr : isTrim a) (hne : a ≠ []) : 0 < val a :=
  Nat.lt_of_lt_of_le (Nat.pow_pos (by decide)) (val_ge a htr hne)
theorem ord_eq_of (P A A' x y : Nat) (hA : A < P) (hA' : A' < P) : ord (A + P * x) (A' + P * y) = if x < y then -1 else if y < x then 1 else ord A A' := by
  unfold ord
  by_cases h1 : x < y
  · have : P * x + P ≤ P * y := by rw [← Nat.mul_succ]; exact Nat.mul_le_mul_left _ h1
    rw [if_pos h1, if_pos (by omega)]
  · rw [if_neg h1]
    by_cases h2 : y < x
    · have : P * y + P ≤ P * x := by rw [← Nat.mul_succ]; exact Nat.mul_le_mul_left _ h2
      rw [if_pos h2, if_neg (by omega), if_pos (by omega)]
    · have : x = y := by omega
      subst this
      rw [if_neg h2]
      by_cases h3 : A < A'
      · rw [if_pos h3, if_pos (by omega)]
      · rw [if_neg h3, if_neg (by omega)]
        by_cases h4 : A' < A
        · rw [if_pos h4, if_pos (by omega)]
        · rw [if_neg h4, if_neg (by omega)]
theorem okL_take (a : List Nat) (h : okL a) (k : Nat) : okL (a.take k) := fun x hx => h x (List.mem_of_mem_take hx)
theorem cmpTop_ord (a b : List Nat) (ha : okL a) (hb : okL b) (k : Nat) (h1 : k ≤ a.length) (h2 : k ≤ b.length) : cmpTop a b k = ord (val (a.take k)) (val (b.take k)) := by
  induction k with
  | zero => simp [cmpTop, ord, val]
  | succ k ih =>
    have la : (a.take k).length = k := by rw [List.length_take]; omega
    have lb : (b.take k).length = k := by rw [List.length_take]; omega
    have va := val_lt _ (okL_take a ha k)
    have vb := val_lt _ (okL_take b hb k)
    rw [la] at va
    rw [lb] at vb
    have ea : a.getD k 0 = a[k] := by rw [List.getD_eq_getElem?_getD, List.getElem?_eq_getElem (by omega)]; rfl
    have eb : b.getD k 0 = b[k] := by rw [List.getD_eq_getElem?_getD, List.getElem?_eq_getElem (by omega)]; rfl
    rw [List.take_succ_eq_append_getElem (by omega), List.take_succ_eq_append_getElem (by omega), val_snoc, val_snoc, la, lb, ord_eq_of _ _ _ _ _ va vb, ← ih (by omega) (by omega)]
    simp only [cmpTop, ea, eb]
theorem cmpL_ord (a b : List Nat) (ha : okL a) (hb : okL b) (ta : isTrim a) (tb : isTrim b) : cmpL a b = ord (val a) (val b) := by
  have lt_of : ∀ x y : List Nat, okL x → isTrim y → x.length < y.length → val x < val y := fun x y hx ty hl => by
    have h1 := val_lt x hx
    have h2 := val_ge y ty (by intro e; rw [e] at hl; simp at hl)
    have h3 : 1000000000 ^ x.length ≤ 1000000000 ^ (y.length - 1) := Nat.pow_le_pow_right (by decide) (by omega)
    omega
  unfold cmpL
  by_cases h1 : a.length < b.length
  · rw [if_pos h1]; unfold ord; rw [if_pos (lt_of a b ha tb h1)]
  · rw [if_neg h1]
    by_cases h2 : b.length < a.length
    · have := lt_of b a hb ta h2
      rw [if_pos h2]; unfold ord; rw [if_neg (by omega), if_pos this]
    · rw [if_neg h2, cmpTop_ord a b ha hb a.length (Nat.le_refl _) (by omega), List.take_length, show a.length = b.length by omega, List.take_length]
/-- The order by sign and limbs is that of the numbers. -/
def cmpI (na nb : Bool) (a b : List Nat) : Int := if na = nb then (if na then cmpL b a else cmpL a b) else if na then -1 else 1
theorem cmpI_ord (na nb : Bool) (a b : List Nat) (ha : okL a) (hb : okL b) (ta : isTrim a) (tb : isTrim b) : cmpI (negOf na a) (negOf nb b) a b = ordI (sg na (val a)) (sg nb (val b)) := by
  have ea : a = [] ∧ val a = 0 ∨ 0 < a.length ∧ 0 < val a := by
    by_cases h : a = []
    · exact .inl ⟨h, by rw [h]; rfl⟩
    · exact .inr ⟨List.length_pos_iff.2 h, val_pos a ta h⟩
  have eb : b = [] ∧ val b = 0 ∨ 0 < b.length ∧ 0 < val b := by
    by_cases h : b = []
    · exact .inl ⟨h, by rw [h]; rfl⟩
    · exact .inr ⟨List.length_pos_iff.2 h, val_pos b tb h⟩
  unfold cmpI
  rw [cmpL_ord a b ha hb ta tb, cmpL_ord b a hb ha tb ta]
  unfold ord ordI negOf sg
  rcases ea with ⟨rfl, va⟩ | ⟨la, va⟩ <;> rcases eb with ⟨rfl, vb⟩ | ⟨lb, vb⟩ <;> cases na <;> cases nb <;> simp_all <;> (repeat' split) <;> omega
end Go.Proofs.YtfhgfclfhghlcaaDoor

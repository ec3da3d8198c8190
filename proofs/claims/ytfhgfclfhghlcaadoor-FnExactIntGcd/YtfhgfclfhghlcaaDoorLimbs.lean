import Derived.Lib.Strings
import Derived.Lib.IndexBytes
import Derived.WalkKit
namespace Go.Proofs.YtfhgfclfhghlcaaDoor
/-! Plain lemmas on limbs: lists of numbers below 10^9, the lowest first. -/
def val : List Nat → Nat
  | [] => 0
  | x :: l => x + 1000000000 * val l
def okL (l : List Nat) : Prop := ∀ x ∈ l, x < 1000000000
/-- Without the zeros at the top. -/
def trimL (l : List Nat) : List Nat := l.take (l.length - (l.reverse.takeWhile (· == 0)).length)
def isTrim (l : List Nat) : Prop := ∀ h : l ≠ [], l.getLast h ≠ 0
/-- The number of a text of digits. -/
def num (d : List UInt8) : Nat := d.foldl (fun a c => a * 10 + (c.toNat - 48)) 0
/-- Limb i of a text of digits: nine digits, from the end. -/
def chunk (d : List UInt8) (i : Nat) : Nat := num ((d.take (d.length - 9 * i)).drop (d.length - 9 * i - 9))
def cnt (n : Nat) : Nat := (n + 8) / 9
def chunks (d : List UInt8) : List Nat := (List.range (cnt d.length)).map (chunk d)
def dig (c : UInt8) : Prop := 48 ≤ c.toNat ∧ c.toNat ≤ 57

theorem num_snoc (d : List UInt8) (c : UInt8) : num (d ++ [c]) = num d * 10 + (c.toNat - 48) := by simp [num]
theorem num_lt (d : List UInt8) (h : ∀ c ∈ d, dig c) : num d < 10 ^ d.length := by
  have key : ∀ (l : List UInt8) (a k : Nat), (∀ c ∈ l, dig c) → a < 10 ^ k → l.foldl (fun a c => a * 10 + (c.toNat - 48)) a < 10 ^ (k + l.length) := by
    intro l
    induction l with
    | nil => intro a k _ h; simpa using h
    | cons c l ih =>
      intro a k hd ha
      have hc := hd c (by simp)
      have := ih (a * 10 + (c.toNat - 48)) (k + 1) (fun x hx => hd x (by simp [hx])) (by unfold dig at hc; rw [Nat.pow_succ]; omega)
      simp only [List.foldl_cons, List.length_cons]
      rw [show k + (l.length + 1) = k + 1 + l.length by omega]
      exact this
  have := key d 0 0 h (by simp)
  simpa [num] using this
theorem chunk_lt (d : List UInt8) (i : Nat) (h : ∀ c ∈ d, dig c) : chunk d i < 1000000000 := by
  unfold chunk
  have h1 := num_lt ((d.take (d.length - 9 * i)).drop (d.length - 9 * i - 9)) (fun c hc => h c (List.mem_of_mem_take (List.mem_of_mem_drop hc)))
  have h2 : ((d.take (d.length - 9 * i)).drop (d.length - 9 * i - 9)).length ≤ 9 := by simp; omega
  have h3 : 10 ^ ((d.take (d.length - 9 * i)).drop (d.length - 9 * i - 9)).length ≤ 10 ^ 9 := Nat.pow_le_pow_right (by omega) h2
  have : (10 : Nat) ^ 9 = 1000000000 := by decide
  omega
theorem chunks_ok (d : List UInt8) (h : ∀ c ∈ d, dig c) : okL (chunks d) := by
  intro x hx
  simp only [chunks, List.mem_map] at hx
  obtain ⟨i, _, rfl⟩ := hx
  exact chunk_lt d i h
/-- trimL, one zero at a time. -/
theorem trimL_snoc_zero (l : List Nat) : trimL (l ++ [0]) = trimL l := by
  unfold trimL
  simp only [List.reverse_append, List.reverse_cons, List.reverse_nil, List.nil_append, List.cons_append, List.length_append, List.length_cons, List.length_nil]
  rw [List.takeWhile_cons]
  simp only [beq_self_eq_true, if_true, List.length_cons]
  rw [show l.length + (0 + 1) - ((List.takeWhile (fun x => x == 0) l.reverse).length + 1) = l.length - (List.takeWhile (fun x => x == 0) l.reverse).length by omega]
  rw [List.take_append_of_le_length (by omega)]
theorem trimL_snoc_pos (l : List Nat) (x : Nat) (h : x ≠ 0) : trimL (l ++ [x]) = l ++ [x] := by
  unfold trimL
  simp only [List.reverse_append, List.reverse_cons, List.reverse_nil, List.nil_append, List.cons_append]
  rw [List.takeWhile_cons, if_neg (by simpa using h)]
  exact List.take_of_length_le (by simp)
theorem trimL_nil : trimL [] = [] := rfl
theorem trimL_take_zero (l : List Nat) (k : Nat) (h : k < l.length) (h0 : l.getD k 0 = 0) : trimL (l.take (k + 1)) = trimL (l.take k) := by
  rw [List.take_succ_eq_append_getElem h]
  have : l[k] = 0 := by simpa [List.getD_eq_getElem?_getD, h] using h0
  rw [this, trimL_snoc_zero]
theorem trimL_take_pos (l : List Nat) (k : Nat) (h : k < l.length) (h0 : l.getD k 0 ≠ 0) : trimL (l.take (k + 1)) = l.take (k + 1) := by
  rw [List.take_succ_eq_append_getElem h]
  have : l[k] ≠ 0 := by simpa [List.getD_eq_getElem?_getD, h] using h0
  exact trimL_snoc_pos _ _ this
theorem trimL_take (l : List Nat) : trimL l = l.take (trimL l).length := by
  unfold trimL
  rw [List.length_take, List.take_eq_take_iff]
  omega
theorem trimL_len (l : List Nat) : (trimL l).length ≤ l.length := by unfold trimL; rw [List.length_take]; omega
theorem trimL_ok (l : List Nat) (h : okL l) : okL (trimL l) := fun x hx => h x (List.mem_of_mem_take hx)
theorem trimL_trim (l : List Nat) : isTrim (trimL l) := by
  induction hn : l.length generalizing l with
  | zero =>
    have : l = [] := List.eq_nil_of_length_eq_zero hn
    subst this
    intro h; exact absurd trimL_nil h
  | succ n ih =>
    have hne : l ≠ [] := by intro h; rw [h] at hn; simp at hn
    rw [← List.dropLast_concat_getLast hne]
    by_cases h0 : l.getLast hne = 0
    · rw [h0, trimL_snoc_zero]
      exact ih _ (by simp [hn])
    · rw [trimL_snoc_pos _ _ h0]
      intro h
      simpa using h0
theorem trimL_of_trim (l : List Nat) (h : isTrim l) : trimL l = l := by
  by_cases hne : l = []
  · rw [hne]; rfl
  · rw [← List.dropLast_concat_getLast hne]
    exact trimL_snoc_pos _ _ (h hne)
end Go.Proofs.YtfhgfclfhghlcaaDoor

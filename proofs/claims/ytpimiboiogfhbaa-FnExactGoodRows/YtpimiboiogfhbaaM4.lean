import Derived.Test.YtpimiboiogfhbaaM2
import Derived.Test.YtpimiboiogfhbaaReadImpl
namespace Go.Proofs.Ytpimiboiogfhbaa
open Go.ChangeShapes Go.WideShapes Go.ChangeAt Go.RowKit
theorem limb_step (P s : Nat) : P * (s % 1000000000) + P * 1000000000 * (s / 1000000000) = P * s := by
  rw [Nat.mul_assoc, ← Nat.mul_add, Nat.add_comm, Nat.div_add_mod]
theorem made_zero' (n : Nat) : (madeCells #[Value.int .u32 0] n).toList = U32s (List.replicate n 0) := by
  rw [toList_madeCells_one]
  simp [U32s]
theorem okL_getD (t : List Nat) (h : okL t) (i : Nat) (hi : i < t.length) : t.getD i 0 < 1000000000 := by
  rw [List.getD_eq_getElem?_getD, List.getElem?_eq_getElem hi]
  exact h _ (List.getElem_mem _)
theorem add_step (P A Bv La c x y : Nat) (h : La + P * c = A + Bv) : La + P * ((c + x + y) % 1000000000) + P * 1000000000 * ((c + x + y) / 1000000000) = A + P * x + (Bv + P * y) := by
  have h1 := limb_step P (c + x + y)
  rw [Nat.mul_add, Nat.mul_add] at h1
  omega
theorem add_end (P Q c A Bv V : Nat) (hQ : Q = P * 1000000000) (h : V + Q * c = A + Bv) (hA : A < P) (hB : Bv < P) : V = A + Bv := by
  cases c with
  | zero => rw [Nat.mul_zero] at h; omega
  | succ c =>
    rw [Nat.mul_succ] at h
    generalize Q * c = X at h
    omega
theorem val_lt_of (a : List Nat) (h : okL a) (n : Nat) (hn : a.length ≤ n) : val a < 1000000000 ^ n := Nat.lt_of_lt_of_le (val_lt a h) (Nat.pow_le_pow_right (by decide) hn)
end Go.Proofs.Ytpimiboiogfhbaa
namespace Go.Proofs.Ytpimiboiogfhbaa
open Go.ChangeShapes Go.WideShapes Go.ChangeAt Go.RowKit
theorem into_step (P A Bv La c x y d c' : Nat) (h : La + P * c = A + Bv) (hd : d + 1000000000 * c' = x + c + y) : La + P * d + P * 1000000000 * c' = A + P * x + (Bv + P * y) := by
  have h1 : P * (d + 1000000000 * c') = P * (x + c + y) := by rw [hd]
  rw [Nat.mul_add, Nat.mul_add, Nat.mul_add, ← Nat.mul_assoc] at h1
  omega
theorem val_from (L A : List Nat) (i n : Nat) (hi : i ≤ n) (hl : L.length = A.length) (hd : L.drop i = A.drop i) (V : Nat) (h : val (L.take i) = val (A.take i) + V) : val (L.take n) = val (A.take n) + V := by
  have key : ∀ X : List Nat, i ≤ X.length → val (X.take n) = val (X.take i) + 1000000000 ^ i * val ((X.drop i).take (n - i)) := fun X hX => by
    have h1 : X.take n = X.take i ++ (X.drop i).take (n - i) := by
      rw [show n = i + (n - i) by omega, List.take_add]; simp
    rw [h1, val_append, List.length_take, Nat.min_eq_left hX]
  by_cases hX : i ≤ A.length
  · rw [key L (by omega), key A hX, hd, h]; omega
  · rw [List.take_of_length_le (by omega), List.take_of_length_le (by omega)] at h ⊢
    exact h
theorem drop_set_succ (L A : List Nat) (i x : Nat) (h : L.drop i = A.drop i) : (L.set i x).drop (i + 1) = A.drop (i + 1) := by
  rw [List.drop_set_of_lt (by omega), ← List.drop_drop, ← List.drop_drop, h]
theorem getD_drop (L A : List Nat) (i : Nat) (h : L.drop i = A.drop i) : L.getD i 0 = A.getD i 0 := by
  have h1 : ∀ X : List Nat, X.getD i 0 = (X.drop i).getD 0 0 := fun X => by simp [List.getD_eq_getElem?_getD]
  rw [h1 L, h1 A, h]
end Go.Proofs.Ytpimiboiogfhbaa
namespace Go.Proofs.Ytpimiboiogfhbaa
open Go.ChangeShapes Go.WideShapes Go.ChangeAt Go.RowKit
/-- Block R begins with these limbs, and may be written. -/
def RowT (w : World) (R : Nat) (l : List Nat) : Prop := ∃ tail : List Value, w.heap[R]? = some (.cells (U32s l ++ tail).toArray 48 (0, 0))
theorem Row.tail {w : World} {R : Nat} {l : List Nat} (h : Row w R l) : RowT w R l := ⟨[], by rw [List.append_nil]; exact h⟩
theorem RowT.lt {w : World} {R : Nat} {l : List Nat} (h : RowT w R l) : R < w.heap.size := by
  obtain ⟨t, h⟩ := h
  exact (Array.getElem?_eq_some_iff.1 h).1
theorem RowT.cell {w : World} {R : Nat} {l : List Nat} (h : RowT w R l) (i : Nat) (hi : i < l.length) : w.cell? ⟨R, i, none⟩ = some (.int .u32 (l.getD i 0 : Nat)) := by
  obtain ⟨t, h⟩ := h
  simp [World.cell?, h, List.getElem?_append, hi, List.getD_eq_getElem?_getD]
theorem RowT.frozen {w : World} {R : Nat} {l : List Nat} (h : RowT w R l) (i : Nat) : w.frozen? ⟨R, i, none⟩ = false := by
  obtain ⟨t, h⟩ := h
  simp [World.frozen?, h]
theorem RowT.set {w : World} {R : Nat} {l : List Nat} (h : RowT w R l) (i x : Nat) (hi : i < l.length) : RowT (w.setCell ⟨R, i, none⟩ (.int .u32 (x : Nat))) R (l.set i x) := by
  obtain ⟨t, h⟩ := h
  refine ⟨t, ?_⟩
  obtain ⟨hlt, hk⟩ := Array.getElem?_eq_some_iff.1 h
  show (w.heap.modify R _)[R]? = _
  rw [Array.getElem?_eq_getElem (by rw [Array.size_modify]; exact hlt), Array.getElem_modify_self, hk]
  simp [U32s, List.map_set, hi]
theorem RowT.isL {w : World} {R B cap : Nat} {l : List Nat} (h : RowT w R l) (hB : B ≤ R) (hok : okL l) (hc : l.length ≤ cap) (hm : cap ≤ maxLen) : IsL B w (.slice (some ⟨R, 0, none⟩) l.length cap) l :=
  ⟨_, cap, rfl, hc, hm, hok, .inr ⟨R, 0, rfl, hB, h.lt, fun i hi => by rw [Nat.zero_add]; exact h.cell i hi⟩⟩
end Go.Proofs.Ytpimiboiogfhbaa
namespace Go.Proofs.Ytpimiboiogfhbaa
open Go.ChangeShapes Go.WideShapes Go.ChangeAt Go.RowKit
/-- The value, when one limb is written. -/
theorem val_set (l : List Nat) (j x : Nat) (hj : j < l.length) : val (l.set j x) + 1000000000 ^ j * l.getD j 0 = val l + 1000000000 ^ j * x := by
  induction l generalizing j with
  | nil => simp at hj
  | cons y l ih =>
    cases j with
    | zero => simp [val]; omega
    | succ j =>
      have h := ih j (by simpa using hj)
      simp only [List.set_cons_succ, val, List.getD_cons_succ, Nat.pow_succ, Nat.mul_comm _ 1000000000, Nat.mul_assoc]
      omega
theorem scadd_step (P VL VN VA K c x F d c' : Nat) (h : VL + P * c = VA + K) (hs : VN + P * x = VL + P * d) (hd : d + 1000000000 * c' = c + F + x) : VN + P * 1000000000 * c' = VA + (K + P * F) := by
  have h1 : P * (d + 1000000000 * c') = P * (c + F + x) := by rw [hd]
  rw [Nat.mul_add, Nat.mul_add, Nat.mul_add, ← Nat.mul_assoc] at h1
  omega
theorem scadd_sum (off i f v y : Nat) : 1000000000 ^ off * (f * (v + 1000000000 ^ i * y)) = 1000000000 ^ off * (f * v) + 1000000000 ^ (off + i) * (f * y) := by
  rw [Nat.mul_add, Nat.mul_add, Nat.pow_add, Nat.mul_left_comm f, Nat.mul_assoc]
end Go.Proofs.Ytpimiboiogfhbaa
namespace Go.Proofs.Ytpimiboiogfhbaa
open Go.ChangeShapes Go.WideShapes Go.ChangeAt Go.RowKit
theorem scaled_step (P A Bv La c x y d c' f : Nat) (h : La + f * Bv = A + P * c) (hd : d + (c + f * y) = x + 1000000000 * c') : La + P * d + f * (Bv + P * y) = A + P * x + P * 1000000000 * c' := by
  have h1 : P * (d + (c + f * y)) = P * (x + 1000000000 * c') := by rw [hd]
  rw [Nat.mul_add, Nat.mul_add, Nat.mul_add, ← Nat.mul_assoc, ← Nat.mul_assoc] at h1
  rw [Nat.mul_add, ← Nat.mul_assoc, Nat.mul_comm f P]
  omega
theorem owed_le (c f F : Nat) (hc : c ≤ f) (hF : F ≤ f * 999999999) : (c + F) / 1000000000 ≤ f := by omega
theorem owed_lt (c f F : Nat) (hc : c ≤ f) (hF : F ≤ f * 999999999) (h : 0 < (c + F) % 1000000000) : (c + F) / 1000000000 + 1 ≤ f := by omega
end Go.Proofs.Ytpimiboiogfhbaa
namespace Go.Proofs.Ytpimiboiogfhbaa
open Go.ChangeShapes Go.WideShapes Go.ChangeAt Go.RowKit
theorem sub_step (P A Bv La c x y d c' : Nat) (h : La + Bv = A + P * c) (hd : d + c + y = x + 1000000000 * c') : La + P * d + (Bv + P * y) = A + P * x + P * 1000000000 * c' := by
  have h1 : P * (d + c + y) = P * (x + 1000000000 * c') := by rw [hd]
  rw [Nat.mul_add, Nat.mul_add, Nat.mul_add, ← Nat.mul_assoc] at h1
  omega
theorem sub_end (P c A Bv V : Nat) (h : V + Bv = A + P * c) (hV : V < P) (hB : Bv ≤ A) : V + Bv = A := by
  cases c with
  | zero => rw [Nat.mul_zero] at h; omega
  | succ c =>
    rw [Nat.mul_succ] at h
    generalize P * c = X at h
    omega
end Go.Proofs.Ytpimiboiogfhbaa

import Derived.Test.YtpjnglcojamfmaaDoorDivX
import Derived.Test.YtpjnglcojamfmaaDoorDivTop
import Derived.Deep.DeepCutAuto
namespace Go.Proofs.YtpjnglcojamfmaaDoor
open Go.ChangeShapes Go.WideShapes Go.ChangeAt Go.RowKit
theorem l1Div_any (B : Nat) (za zb : Value) (na nb : Bool) (a b : List Nat) (w : World) (hBw : B ≤ w.heap.size) (hza : IsZ B w za na a) (hzb : IsZ B w zb nb b) (hla : a.length ≤ 100000) (hlb : b.length ≤ 100000) (hne : b ≠ []) :
    Calls Tryd.prog 24 #[za, zb] w fun e w' => ∃ z1 z2 q r, e = .returned (.tuple #[z1, z2]) ∧ (IsN w.heap.size w' z1 q ∧ IsN w.heap.size w' z2 r) ∧ IsDiv (sg na (val a)) (sg nb (val b)) q r ∧ Below w.heap.size w w' := by
  have hoa := hza.1; have hob := hzb.1
  have htb := hzb.2.1
  obtain ⟨x, xn, pa, la, ca, rfl, fa, ga⟩ := hza.form2
  obtain ⟨y, yn, pb, lb, cb, rfl, fb, gb⟩ := hzb.form2
  by_cases h0 : la = 0 ∧ lb = 0
  · have g1 := ga h0.1
    have g2 := gb h0.2
    rw [g1.2, g2.2]
    have l1 := sg_lt na a hoa g1.1
    have l2 := sg_lt nb b hob g2.1
    exact l1Div_small _ _ w l1.1 l1.2 l2.1 l2.2 (fun h => hne ((sg_zero_iff nb b htb).1 h))
  have hz : ((la : Int) == 0) = false ∨ (((la : Int) == 0) = true ∧ ((lb : Int) == 0) = false) := by
    by_cases h : la = 0
    · exact .inr ⟨by rw [beq_iff_eq]; omega, by rw [beq_eq_false_iff_ne]; omega⟩
    · exact .inl (by rw [beq_eq_false_iff_ne]; omega)
  have h := l1Div_big B x y xn yn pa la ca pb lb cb na nb a b w hBw hz hza hzb _ _ fa fb hla hlb hne
  rw [sg_negOf, sg_negOf] at h
  exact h
theorem foldl_pos (l : List UInt8) (a : Nat) (h : 1 ≤ a) : 1 ≤ l.foldl (fun a c => a * 10 + (c.toNat - 48)) a := by
  induction l generalizing a with
  | nil => exact h
  | cons c l ih => exact ih _ (by show 1 ≤ a * 10 + (c.toNat - 48); omega)
theorem num_pos (c : UInt8) (l : List UInt8) (h : 49 ≤ c.toNat) : 1 ≤ num (c :: l) := foldl_pos l _ (by show 1 ≤ 0 * 10 + (c.toNat - 48); omega)
theorem lim_pos (d : List UInt8) (c : UInt8) (l : List UInt8) (hd : d = c :: l) (hc : 49 ≤ c.toNat) : trimL (chunks d) ≠ [] := by
  obtain ⟨k, hk⟩ : ∃ k, cnt d.length = k + 1 := ⟨cnt d.length - 1, by rw [hd]; unfold cnt; simp; omega⟩
  have hm : 1 ≤ d.length - 9 * k ∧ d.length - 9 * k ≤ 9 := by unfold cnt at hk; rw [hd] at hk ⊢; simp at hk ⊢; omega
  have hp : chunk d k ≠ 0 := by
    unfold chunk
    rw [show d.length - 9 * k - 9 = 0 by omega, List.drop_zero]
    obtain ⟨m, hm'⟩ : ∃ m, d.length - 9 * k = m + 1 := ⟨d.length - 9 * k - 1, by omega⟩
    rw [hm', hd, List.take_succ_cons]
    have := num_pos c (l.take m) hc
    omega
  unfold chunks
  rw [hk, List.range_succ, List.map_append, List.map_cons, List.map_nil, trimL_snoc_pos _ _ hp]
  simp
theorem zero_text (t : ByteArray) (h : isIntB t = true) (h0 : (t.toList == [48]) = false) : numT t ≠ 0 := by
  intro hz
  have hl : lim t = [] := (sg_zero_iff _ _ (trimL_trim _)).1 hz
  unfold isIntB at h
  rw [h0] at h
  simp only [Bool.and_eq_true, Bool.or_false, decide_eq_true_eq, Bool.not_eq_true', decide_eq_false_iff_not, List.all_eq_true] at h
  obtain ⟨⟨⟨h1, _⟩, h3⟩, h4⟩ := h
  cases hd : (dgs t).data.toList with
  | nil => have : (dgs t).size = 0 := by show (dgs t).data.size = 0; rw [← Array.length_toList, hd]; rfl
           omega
  | cons c l =>
    rw [hd] at h3 h4
    have hc := h3 c (by simp)
    simp [isDig] at hc
    have hc2 : c ≠ 48 := by simpa using h4
    have hc3 : c.toNat ≠ 48 := fun e => hc2 (UInt8.toNat_inj.1 e)
    exact lim_pos _ c l hd (by omega) hl
theorem zero_text' (t : ByteArray) (h0 : (t.toList == [48]) = true) : numT t = 0 := by
  have h1 : t.toList = [48] := by simpa using h0
  have h2 : t = strB [48] := by
    rw [ByteArray.toList_eq] at h1
    obtain ⟨⟨l⟩⟩ := t
    simp only at h1
    subst h1
    rfl
  rw [h2]
  exact (sg_zero_iff _ _ (trimL_trim _)).2 (by kernel_rfl)
end Go.Proofs.YtpjnglcojamfmaaDoor

import Derived.Test.YtlphfokcojahlaaDoorRatE
namespace Go.Proofs.YtlphfokcojahlaaDoor
open Go.ChangeShapes Go.WideShapes Go.ChangeAt Go.RowKit
def ShapeR (z : Value) : Prop := ∃ s1 p1 l1 c1 s2 p2 l2 c2, z = .agg #[.bool s1, .slice p1 l1 c1, .bool s2, .slice p2 l2 c2]
/-- What readRational answers. -/
def ReadR (B : Nat) (w : World) (s : ByteArray) (k : Option Nat) (z : Value) (ok : Bool) : Prop :=
  ShapeR z ∧ (ok = true ↔ ∃ x y, RatV s k x y) ∧ (ok = true → ∃ x y, RatV s k x y ∧ IsQR B w z x y 300)
theorem IsQR.mono {B B' : Nat} {w : World} {z : Value} {x y : Int} {n n' : Nat} (h : IsQR B w z x y n) (hb : B' ≤ B) (hn : n ≤ n') : IsQR B' w z x y n' := by
  obtain ⟨s1, v1, s2, v2, e, h1, h2⟩ := h
  exact ⟨s1, v1, s2, v2, e, h1.mono hb hn, h2.mono hb hn⟩
theorem IsQR.put4 {B : Nat} {W : World} {z : Value} {x y : Int} {n : Nat} (h : IsQR B W z x y n) {g : Nat} (no : NoInt W g) (u0 u1 u2 u3 : Value) : IsQR B ((((W.setCell ⟨g, 0, none⟩ u0).setCell ⟨g, 1, none⟩ u1).setCell ⟨g, 2, none⟩ u2).setCell ⟨g, 3, none⟩ u3) z x y n := by
  obtain ⟨s1, v1, s2, v2, e, h1, h2⟩ := h
  exact ⟨s1, v1, s2, v2, e, h1.put4 no u0 u1 u2 u3, h2.put4 no u0 u1 u2 u3⟩
theorem readR_of (B : Nat) (W : World) (s p q u v : ByteArray) (i : Nat) (b bb ok : Bool) (z : Value) (xn xd : Int) (hP : cutP s (some i) = p ∧ cutQ s (some i) = q ∧ (some i).isSome = b) (hI : isIntB p = true ∧ isIntB q = true) (h0 : numT q ≠ 0) (hl : IsLow (numT p) (numT q) xn xd)
    (hu : IsText xn u ∧ (if xd = 1 then bb = false ∧ v = ⟨#[]⟩ else bb = true ∧ IsText xd v)) (hok : (u.toList == p.toList && bb == b && v.toList == q.toList) = ok) (hR : IsQR B W z xn xd 283) : ReadR B W s (some i) z ok := by
  obtain ⟨rfl, rfl, hb⟩ := hP
  have hbt : b = true := hb.symm
  subst hbt
  have key : ok = true ↔ (xd ≠ 1 ∧ IsText xn (cutP s (some i)) ∧ IsText xd (cutQ s (some i))) := by
    rw [← hok, toList_inj, toList_inj]
    simp only [Bool.and_eq_true, decide_eq_true_eq, beq_iff_eq]
    constructor
    · rintro ⟨⟨rfl, rfl⟩, rfl⟩
      by_cases h1 : xd = 1
      · rw [if_pos h1] at hu; exact absurd hu.2.1 (by decide)
      · rw [if_neg h1] at hu; exact ⟨h1, hu.1, hu.2.2⟩
    · rintro ⟨h1, h2, h3⟩
      rw [if_neg h1] at hu
      exact ⟨⟨hu.1.eq h2, hu.2.1⟩, hu.2.2.eq h3⟩
  have hrf := rat_form _ _ xn xd hI.1 hI.2 h0 hl
  have hV : ok = true → RatV s (some i) (numT (cutP s (some i))) (numT (cutQ s (some i))) := fun e => by
    obtain ⟨a1, a2, a3, a4⟩ := hrf.1 (key.1 e)
    exact ⟨hI, ⟨h0, a1, a2, a3, a4⟩, rfl, rfl⟩
  have hsh : ShapeR z := by
    obtain ⟨s1, p1, l1, c1, s2, p2, l2, c2, h, _⟩ := hR.shape
    exact ⟨s1, p1, l1, c1, s2, p2, l2, c2, h⟩
  refine ⟨hsh, ⟨fun e => ⟨_, _, hV e⟩, ?_⟩, fun e => ?_⟩
  · rintro ⟨x, y, _, ⟨_, a1, a2, a3, a4⟩, _, _⟩
    exact key.2 (hrf.2 ⟨a1, a2, a3, a4⟩)
  · obtain ⟨_, t1, t2⟩ := key.1 e
    have e1 := text_inj t1 (text_back _ hI.1) (text_ne _ hI.1)
    have e2 := text_inj t2 (text_back _ hI.2) (text_ne _ hI.2)
    refine ⟨_, _, hV e, ?_⟩
    rw [← e1, ← e2]
    exact hR.mono (Nat.le_refl _) (by omega)
end Go.Proofs.YtlphfokcojahlaaDoor

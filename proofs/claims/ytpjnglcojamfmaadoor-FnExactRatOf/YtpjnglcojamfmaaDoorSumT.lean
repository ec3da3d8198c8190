import Derived.Test.YtpjnglcojamfmaaDoorPlusGH
import Derived.Test.YtpjnglcojamfmaaDoorOfImpl
namespace Go.Proofs.YtpjnglcojamfmaaDoor
open Go.ChangeShapes Go.WideShapes Go.ChangeAt Go.RowKit
theorem IsI.below {B : Nat} {w w' : World} {z : Value} {x : Int} {n : Nat} (h : IsI B w z x n) (hb : Below w.heap.size w w') : IsI B w' z x n := by
  obtain ⟨neg, v, t, h1, h2, h3⟩ := h
  exact ⟨neg, v, t, h1, h2.below hb, h3⟩
theorem IsI.mono {B B' : Nat} {w : World} {z : Value} {x : Int} {n n' : Nat} (h : IsI B w z x n) (hb : B' ≤ B) (hn : n ≤ n') : IsI B' w z x n' := by
  obtain ⟨neg, v, t, h1, h2, h3, h4, h5⟩ := h
  exact ⟨neg, v, t, h1, h2.mono hb, h3, h4, by omega⟩
theorem negOf_ne (n : Bool) (t : List Nat) (h : negOf n t = true) : t ≠ [] := by
  rintro rfl
  cases n <;> simp [negOf] at h
set_option maxRecDepth 100000 in
set_option maxHeartbeats 1000000 in
theorem negated_any (B : Nat) (z : Value) (x : Int) (n : Nat) (w : World) (h : IsI B w z x n) :
    Calls Tryd.prog 34 #[z] w fun e w' => ∃ z', e = .returned z' ∧ IsI B w' z' (-x) n ∧ Below w.heap.size w w' := by
  obtain ⟨neg, v, t, rfl, hv, ht, hx, hl⟩ := h
  obtain ⟨p, c, rfl, _⟩ := id hv
  obtain ⟨s, hs⟩ : ∃ s, negOf neg t = s := ⟨_, rfl⟩
  have HX : Hid (sg (!s) (val t) = -x) := by
    show sg (!s) (val t) = -x
    rw [← hs, sg_not, sg_negOf, hx]
  have HV : Hid (∀ W, Below w.heap.size w W → IsL B W (.slice p t.length c) t) := fun W hW => hv.below hW
  have HT : Hid (isTrim t ∧ t.length ≤ n) := ⟨ht, hl⟩
  obtain ⟨W1, hW1⟩ : ∃ W1, (w.alloc (.cells #[.bool s, .slice p t.length c] 33)).alloc (.cells #[.bool false, .slice none 0 0] 33) = W1 := ⟨_, rfl⟩
  have HW1 := hide hW1
  have HB1 : Hid (Below w.heap.size w W1) := by rw [← hW1]; exact below_al (below_alloc _ _) _
  have hsz : W1.heap.size = w.heap.size + 2 := by rw [← hW1]; simp
  have HR : Hid (∀ W, Below W1.heap.size W1 W → (W.cell? ⟨w.heap.size + 1, 0, none⟩ = some (.bool false) ∧ W.cell? ⟨w.heap.size + 1, 1, none⟩ = some (.slice none 0 0) ∧ W.frozen? ⟨w.heap.size + 1, 0, none⟩ = false ∧ W.frozen? ⟨w.heap.size + 1, 1, none⟩ = false) ∧ W.cell? ⟨w.heap.size, 0, none⟩ = some (.bool s) ∧ W.cell? ⟨w.heap.size, 1, none⟩ = some (.slice p t.length c)) := fun W hW => by
    have q : ∀ k, k < 2 → ∀ i, W.cell? ⟨w.heap.size + k, i, none⟩ = W1.cell? ⟨w.heap.size + k, i, none⟩ := fun k hk i => hW.cell (p := ⟨w.heap.size + k, i, none⟩) (by show w.heap.size + k < W1.heap.size; omega)
    have f : ∀ i, W.frozen? ⟨w.heap.size + 1, i, none⟩ = W1.frozen? ⟨w.heap.size + 1, i, none⟩ := fun i => hW.frozen (p := ⟨w.heap.size + 1, i, none⟩) (by show w.heap.size + 1 < W1.heap.size; omega)
    refine ⟨⟨?_, ?_, ?_, ?_⟩, ?_, ?_⟩
    · rw [q 1 (by omega), ← hW1, World.cell?_alloc_at _ _ _ _ (by simp)]; rfl
    · rw [q 1 (by omega), ← hW1, World.cell?_alloc_at _ _ _ _ (by simp)]; rfl
    · rw [f, ← hW1, World.frozen?_alloc_at _ _ _ _ (by simp)]
    · rw [f, ← hW1, World.frozen?_alloc_at _ _ _ _ (by simp)]
    · refine (q 0 (by omega) 0).trans ?_
      rw [← hW1, World.cell?_alloc_past _ _ _ (by simp), World.cell?_alloc_at _ _ _ _ (by simp)]; rfl
    · refine (q 0 (by omega) 1).trans ?_
      rw [← hW1, World.cell?_alloc_past _ _ _ (by simp), World.cell?_alloc_at _ _ _ _ (by simp)]; rfl
  have HS1 : Hid (W1.heap.size = w.heap.size + 2) := hsz
  rw [hs]
  clear hs hx ht hl hv hW1 hsz
  go_enter Tryd.func34, Tryd.ntmps34
  go_wp2_with fail
  rw [HW1.out]
  refine (makeInteger_any B _ _ t _ (HV.out _ HB1.out)).mono ?_
  rintro e w2 ⟨v', rfl, hcut, hb2⟩
  have HB2 : Hid (Below w.heap.size w w2) := HB1.out.trans (hb2.mono HB1.out.size)
  have HV2 : Hid (∀ W, Below w.heap.size w W → IsL B W v' (trimL t)) := fun W hW => hcut _ _ (HV.out _ hW)
  obtain ⟨⟨r0, r1, f0, f1⟩, _, _⟩ := HR.out w2 hb2
  obtain ⟨pw, cw, hw, _⟩ := HV2.out _ HB2.out
  subst hw
  clear hcut hb2
  go_wp2
  have hF : Below w.heap.size w ((w2.setCell ⟨w.heap.size + 1, 0, none⟩ (.bool (negOf (!s) (trimL t)))).setCell ⟨w.heap.size + 1, 1, none⟩ (.slice pw (trimL t).length cw)) := (HB2.out.setCell (by simp) _).setCell (by simp) _
  refine bodyPost_ret ?_ rfl ⟨_, rfl, ⟨!s, _, trimL t, rfl, HV2.out _ hF, trimL_trim _, by rw [val_trimL]; exact HX.out, by have := trimL_len t; have := HT.out.2; omega⟩, hF⟩
  simp [results, Tryd.results34, go_sem, r0, r1]
end Go.Proofs.YtpjnglcojamfmaaDoor
namespace Go.Proofs.YtpjnglcojamfmaaDoor
open Go.ChangeShapes Go.WideShapes Go.ChangeAt Go.RowKit
theorem IsI.shape {B : Nat} {w : World} {z : Value} {x : Int} {n : Nat} (h : IsI B w z x n) : ∃ (s : Bool) (p : Option Addr) (l c : Nat), z = .agg #[.bool s, .slice p l c] := by
  obtain ⟨neg, v, t, rfl, ⟨p, c, rfl, _⟩, _⟩ := h
  exact ⟨_, _, _, _, rfl⟩
theorem IsI.setCell {B : Nat} {w : World} {z : Value} {x : Int} {n : Nat} (h : IsI B w z x n) (p : Addr) (u : Value) (hp : p.block < B) : IsI B (w.setCell p u) z x n := by
  obtain ⟨neg, v, t, h1, h2, h3⟩ := h
  exact ⟨neg, v, t, h1, h2.setCell p u hp, h3⟩
end Go.Proofs.YtpjnglcojamfmaaDoor
namespace Go.Proofs.YtpjnglcojamfmaaDoor
open Go.ChangeShapes Go.WideShapes Go.ChangeAt Go.RowKit
theorem lim_len' (s : ByteArray) (h : isIntB s = true) : (lim s).length ≤ 280 := by
  have h1 : (dgs s).size ≤ 2500 := by
    by_cases h2 : 2500 < (dgs s).size
    · rw [isInt_long s _ rfl h2] at h; cases h
    · omega
  have h3 := trimL_len (chunks (dgs s).data.toList)
  have h4 : (chunks (dgs s).data.toList).length = cnt (dgs s).data.toList.length := by simp [chunks]
  have h5 : (dgs s).data.toList.length = (dgs s).size := by simp
  unfold lim
  rw [h4, h5] at h3
  have h6 : cnt (dgs s).size ≤ 280 := by unfold cnt; omega
  omega
theorem textI_any (B : Nat) (z : Value) (x : Int) (n : Nat) (w : World) (h : IsI B w z x n) (hn : n ≤ 600) (hLT : LT w) :
    Calls Tryd.prog 46 #[z] w fun e w' => ∃ u, e = .returned (.string u) ∧ IsText x u ∧ Below w.heap.size w w' := by
  obtain ⟨neg, v, t, rfl, hv, ht, hx, hl⟩ := h
  have hok : okL t := by obtain ⟨_, _, _, _, _, h, _⟩ := hv; exact h
  refine (text_any B _ v t w hv (by omega) hLT).mono ?_
  rintro e w' ⟨rfl, hb⟩
  exact ⟨_, rfl, ⟨neg, t, hok, ht, hx, rfl⟩, hb⟩
end Go.Proofs.YtpjnglcojamfmaaDoor

import Derived.Test.YtlphfokcojahlaaDoorSumImpl
import Derived.Test.YtlphfokcojahlaaDoorOfImpl
namespace Go.Proofs.YtlphfokcojahlaaDoor
open Go.ChangeShapes Go.WideShapes Go.ChangeAt Go.RowKit
theorem IsI.shape {B : Nat} {w : World} {z : Value} {x : Int} {n : Nat} (h : IsI B w z x n) : ∃ (s : Bool) (p : Option Addr) (l c : Nat), z = .agg #[.bool s, .slice p l c] := by
  obtain ⟨neg, v, t, rfl, ⟨p, c, rfl, _⟩, _⟩ := h
  exact ⟨_, _, _, _, rfl⟩
theorem IsI.setCell {B : Nat} {w : World} {z : Value} {x : Int} {n : Nat} (h : IsI B w z x n) (p : Addr) (u : Value) (hp : p.block < B) : IsI B (w.setCell p u) z x n := by
  obtain ⟨neg, v, t, h1, h2, h3⟩ := h
  exact ⟨neg, v, t, h1, h2.setCell p u hp, h3⟩
set_option maxRecDepth 100000 in
set_option maxHeartbeats 1000000 in
theorem minus_any (B : Nat) (za zb : Value) (x y : Int) (n m : Nat) (w : World) (ha : IsI B w za x n) (hb : IsI B w zb y m) (hn : n ≤ 100000) (hm : m ≤ 100000) (hSP : SP w) :
    Calls Tryd.prog 41 #[za, zb] w fun e w' => ∃ z, e = .returned z ∧ IsI w.heap.size w' z (x - y) (n + m + 1) ∧ Below w.heap.size w w' := by
  have HA : Hid (∀ W, Below w.heap.size w W → IsI B W za x n) := fun W hW => ha.below hW
  have HB : Hid (∀ W, Below w.heap.size w W → IsI B W zb y m) := fun W hW => hb.below hW
  have HSP : Hid (∀ W, Below w.heap.size w W → SP W) := fun W hW => hSP.below hW
  have HN : Hid (n ≤ 100000 ∧ m ≤ 100000) := ⟨hn, hm⟩
  obtain ⟨sa, pa, la, ca, rfl⟩ := ha.shape
  obtain ⟨sb, pb, lb, cb, rfl⟩ := hb.shape
  clear ha hb hSP hn hm
  have HX := boxI_first w sa pa la ca sb pb lb cb 39
  obtain ⟨W0, hW0⟩ : ∃ W0, (((w.alloc (.cells #[.bool sa, .slice pa la ca] 39)).alloc (.cells #[.bool sb, .slice pb lb cb] 39)).alloc (.cells #[.bool false, .slice none 0 0] 39)) = W0 := ⟨_, rfl⟩
  have HW0 := hide hW0
  have hB0 : Below w.heap.size w W0 := by rw [← hW0]; exact below_al (below_al (below_alloc _ _) _) _
  have HB0 := hide hB0
  have hsz : W0.heap.size = w.heap.size + 3 := by rw [← hW0]; simp
  rw [hW0] at HX
  have HS := hide hsz
  have HBX : Hid (∀ W, Below W0.heap.size W0 W → BoxI w.heap.size W sa pa la ca sb pb lb cb) := fun W hW => HX.below (by omega) hW
  have HF : Hid (∀ W, Below W0.heap.size W0 W → Below w.heap.size w W) := fun W hW => hB0.trans (hW.mono (by omega))
  obtain ⟨a0, a1, b0, b1, r0, r1, f⟩ := HX
  have f0 := f 2 (by omega) 0
  have f1 := f 2 (by omega) 1
  clear f hW0 hsz hB0
  go_enter Tryd.func41, Tryd.ntmps41
  go_wp2_with fail
  rw [HW0.out]
  go_region_with (first
    | (go_at_call 82; refine (negated_any B _ y m _ (HB.out _ (HF.out _ ?_))).mono ?_
       · exact (Below.refl _ W0).drew
       rintro e wd ⟨z, rfl, hz, hbd⟩
       have HBD : Hid (Below W0.heap.size W0 wd) := (Below.refl _ W0).drew.trans (hbd.mono (Nat.le_refl _))
       have HZ : Hid (IsI B wd z (-y) m) := hz
       obtain ⟨c0, c1, d0, d1, s0, s1, g⟩ := HBX.out wd HBD.out
       have g0 := g 2 (by omega) 0
       have g1 := g 2 (by omega) 1
       obtain ⟨sz, pz, lz, cz, hv⟩ := hz.shape
       subst hv
       clear hz hbd g)
    | (go_at_call 38; refine (plus_any B _ _ x (-y) n m _ (HA.out _ (HF.out _ HBD.out)) HZ.out HN.out.1 HN.out.2 (HSP.out _ (HF.out _ HBD.out))).mono ?_
       rintro e we ⟨z', rfl, hz', hbe⟩
       have HBE : Hid (Below W0.heap.size W0 we) := HBD.out.trans (hbe.mono HBD.out.size)
       have HZE : Hid (IsI (w.heap.size + 3) we z' (x - y) (n + m + 1)) := by
         rw [Int.sub_eq_add_neg]
         exact hz'.mono (by have := HBD.out.size; have := HS.out; omega) (Nat.le_refl _)
       obtain ⟨c0, c1, d0, d1, s0, s1, g⟩ := HBX.out we HBE.out
       have g0 := g 2 (by omega) 0
       have g1 := g 2 (by omega) 1
       obtain ⟨se, pe, le, ce, hw⟩ := hz'.shape
       subst hw
       clear hz' hbe g))
  all_goals
    try simp only [List.getElem_toArray, List.getElem_cons_succ, List.getElem_cons_zero, Act.put, List.setIfInBounds_toArray, List.set_cons_succ, List.set_cons_zero]
    go_wp2
    have HFE : Hid (Below w.heap.size w we) := HF.out _ HBE.out
    refine bodyPost_ret ?_ rfl ⟨_, rfl, ((HZE.out.setCell _ _ (by simp)).setCell _ _ (by simp)).mono (by omega) (Nat.le_refl _), (HFE.out.setCell (by simp; omega) _).setCell (by simp; omega) _⟩
    simp [results, Tryd.results41, go_sem, s0, s1]
end Go.Proofs.YtlphfokcojahlaaDoor

import Derived.Test.YtpjnglcojamfmaaGreatDoorSumT
import Derived.Test.YtpjnglcojamfmaaGreatDoorMulLimbs
namespace Go.Proofs.YtpjnglcojamfmaaGreatDoor
open Go.ChangeShapes Go.WideShapes Go.ChangeAt Go.RowKit
theorem sg_mul' (s t : Bool) (u v : Nat) : sg (s != t) (u * v) = sg s u * sg t v := by
  cases s <;> cases t <;> simp [sg, Int.mul_neg, Int.neg_mul]
theorem field_neg (x z : Int) (y : Bool) (w : World) : (Instr.field 104 (.agg #[.int .i64 x, .bool y, .int .i64 z]) 1).run Tryz.prog w = .ok (.bool y) w := by kernel_rfl
set_option maxRecDepth 100000 in
set_option maxHeartbeats 8000000 in
theorem times_same (B : Nat) (s t : Bool) (va vb : Value) (a b : List Nat) (w : World) (ha : IsL B w va a) (hb : IsL B w vb b) (hla : a.length ≤ 100000) (hlb : b.length ≤ 100000) (hSP : SP w) :
    Calls Tryz.prog 113 #[.agg #[.bool s, va], .agg #[.bool t, vb]] w fun e w' => ∃ z, e = .returned z ∧ IsI w.heap.size w' z (sg s (val a) * sg t (val b)) (a.length + b.length) ∧ Below w.heap.size w w' := by
  obtain ⟨pa, ca, rfl, _⟩ := id ha
  obtain ⟨pb, cb, rfl, _⟩ := id hb
  have HX := boxI_first w s pa a.length ca t pb b.length cb 47
  obtain ⟨W0, hW0⟩ : ∃ W0, (((w.alloc (.cells #[.bool s, .slice pa a.length ca] 47)).alloc (.cells #[.bool t, .slice pb b.length cb] 47)).alloc (.cells #[.bool false, .slice none 0 0] 47)) = W0 := ⟨_, rfl⟩
  have HW0 := hide hW0
  have hB0 : Below w.heap.size w W0 := by rw [← hW0]; exact below_al (below_al (below_alloc _ _) _) _
  have HB0 := hide hB0
  have hsz : W0.heap.size = w.heap.size + 3 := by rw [← hW0]; simp
  rw [hW0] at HX
  have HS := hide hsz
  have HBX : Hid (∀ W, Below W0.heap.size W0 W → BoxI w.heap.size W s pa a.length ca t pb b.length cb) := fun W hW => HX.below (by omega) hW
  have HA : Hid (∀ W, Below W0.heap.size W0 W → IsL B W (.slice pa a.length ca) a) := fun W hW => (ha.below hB0).below hW
  have HB : Hid (∀ W, Below W0.heap.size W0 W → IsL B W (.slice pb b.length cb) b) := fun W hW => (hb.below hB0).below hW
  have HSP : Hid (SP W0) := hSP.below hB0
  have HLA : Hid (a.length ≤ 100000 ∧ b.length ≤ 100000) := ⟨hla, hlb⟩
  obtain ⟨a0, a1, b0, b1, r0, r1, f⟩ := HX
  have f0 := f 2 (by omega) 0
  have f1 := f 2 (by omega) 1
  clear f hW0 hsz ha hb hB0 hla hlb hSP
  have hfd := field_neg
  go_enter Tryz.func113, Tryz.ntmps113
  go_wp2_with fail
  rw [HW0.out]
  go_region_with (first
    | (go_at_call 88; refine (signsOf_any _ _ _ _ _ _ _ _ _ (HSP.out.below ?_)).mono ?_
       · exact (Below.refl _ W0).drew
       rintro e ws ⟨rfl, hbs⟩
       have HBS : Hid (Below W0.heap.size W0 ws) := (Below.refl _ W0).drew.trans (hbs.mono (Nat.le_refl _))
       obtain ⟨k0, k1, l0, l1, t0, t1, g⟩ := HBX.out ws HBS.out
       have j0 := g 2 (by omega) 0
       have j1 := g 2 (by omega) 1
       clear hbs g)
    | (go_at_call 154; refine (mulLimbs_any B _ _ a b _ (HA.out _ HBS.out) (HB.out _ HBS.out) HLA.out.1 HLA.out.2).mono ?_
       rintro e wd ⟨v, L, rfl, hL, hval, hlen, htr, hbd⟩
       have HBD : Hid (Below W0.heap.size W0 wd) := HBS.out.trans (hbd.mono HBS.out.size)
       have HL : Hid (IsL (w.heap.size + 3) wd v L) := hL.mono (by have := HBS.out.size; have := HS.out; omega)
       have HV : Hid (val L = val a * val b ∧ L.length ≤ a.length + b.length) := ⟨hval, by omega⟩
       obtain ⟨c0, c1, d0, d1, s0, s1, g⟩ := HBX.out wd HBD.out
       have g0 := g 2 (by omega) 0
       have g1 := g 2 (by omega) 1
       obtain ⟨pv, cv, hv, _⟩ := hL
       subst hv
       clear hval hlen htr hbd g)
    | (go_at_call 89; refine (makeInteger_any _ (s != t) _ L _ HL.out).mono ?_
       rintro e we ⟨v', rfl, hcut, hbe⟩
       have HBE : Hid (Below W0.heap.size W0 we) := HBD.out.trans (hbe.mono HBD.out.size)
       have HLE : Hid (IsL (w.heap.size + 3) we v' (trimL L)) := (hcut _ _ HL.out).below hbe
       obtain ⟨c0, c1, d0, d1, s0, s1, g⟩ := HBX.out we HBE.out
       have g0 := g 2 (by omega) 0
       have g1 := g 2 (by omega) 1
       obtain ⟨pw, cw, hw, _⟩ := HLE.out
       subst hw
       clear hcut hbe g))
  all_goals
    try simp only [List.getElem_toArray, List.getElem_cons_succ, List.getElem_cons_zero, Act.put, List.setIfInBounds_toArray, List.set_cons_succ, List.set_cons_zero]
    go_wp2
    have HF : Hid (Below w.heap.size w we) := HB0.out.trans (HBE.out.mono (by have := HS.out; omega))
    refine bodyPost_ret ?_ rfl ⟨_, rfl, ⟨s != t, _, trimL L, rfl, ((HLE.out.setCell _ _ (by simp)).setCell _ _ (by simp)).mono (by omega), trimL_trim _, by rw [val_trimL, HV.out.1, sg_mul'], by have := trimL_len L; have := HV.out.2; omega⟩, (HF.out.setCell (by simp; omega) _).setCell (by simp; omega) _⟩
    simp [results, Tryz.results113, go_sem, s0, s1]
theorem times_any (B : Nat) (za zb : Value) (x y : Int) (n m : Nat) (w : World) (ha : IsI B w za x n) (hb : IsI B w zb y m) (hn : n ≤ 100000) (hm : m ≤ 100000) (hSP : SP w) :
    Calls Tryz.prog 113 #[za, zb] w fun e w' => ∃ z, e = .returned z ∧ IsI w.heap.size w' z (x * y) (n + m) ∧ Below w.heap.size w w' := by
  obtain ⟨na, va, a, rfl, hva, ta, rfl, hla⟩ := ha
  obtain ⟨nb, vb, b, rfl, hvb, tb, rfl, hlb⟩ := hb
  rw [← sg_negOf na a, ← sg_negOf nb b]
  refine (times_same B _ _ va vb a b w hva hvb (by omega) (by omega) hSP).mono ?_
  rintro e w' ⟨z, h1, h2, h3⟩
  exact ⟨z, h1, h2.mono (Nat.le_refl _) (by omega), h3⟩
end Go.Proofs.YtpjnglcojamfmaaGreatDoor

import Derived.Test.YtpimiboiogfhbaaLrH
namespace Go.Proofs.Ytpimiboiogfhbaa.L
open Go.ChangeShapes Go.WideShapes Go.ChangeAt Go.RowKit
theorem Stays.self {N : Nat} {w : World} {P : World → Prop} (h : Stays N w P) : P w := h w (Nat.le_refl _) (fun _ _ _ => rfl)
set_option maxRecDepth 100000 in
set_option maxHeartbeats 4000000 in
theorem goodRowsLaw (cols : Int) (v : Value) (F : List Lr) (w : World) (h : ArgRows w v F) (hc1 : -9223372036854775808 ≤ cols) (hc2 : cols ≤ 9223372036854775807) :
    Calls Try.prog 3 #[.int .i64 cols, v] w fun e w' => e = .returned (.bool true) ∧ Below w.heap.size w w' := by
  have H := hidG h
  obtain ⟨a, c, rfl, -⟩ := h
  go_enter Try.func3, Try.ntmps3
  go_wp2_with fail
  refine (szLinRowS_any _ F 1048576 _ H.out (Nat.le_refl _)).mono ?_
  rintro e w1 ⟨(rfl | ⟨z, hz, rfl, hsm⟩), hb1⟩
  · have HB1 := hidG hb1
    clear hb1
    go_wp2_with fail
    go_ret
    exact ⟨rfl, HB1.out⟩
  have HB1 := hidG hb1
  have HSM := hidG hsm
  have y : decide ((z : Int) < 0) = false := by rw [decide_eq_false_iff_not]; omega
  clear hb1 hsm
  go_wp2_with fail
  refine (toLinRowS_any _ F _ (H.out.below HB1.out) HSM.out).mono ?_
  rintro e w2 ⟨v2, rfl, ⟨p2, c2, rfl⟩, hst2, hb2⟩
  have HB2 : Hid (Below w.heap.size w w2) := HB1.out.trans (hb2.mono HB1.out.size)
  have HR2 := hidG hst2.self
  clear hst2 hb2
  go_wp2_with fail
  refine (goodRows_spec cols _ F _ HR2.out HSM.out hc1 hc2).mono ?_
  rintro e w3 ⟨rfl, hb3⟩
  have HB3 : Hid (Below w.heap.size w w3) := HB2.out.trans (hb3.mono HB2.out.size)
  clear hb3
  obtain ⟨g, hg⟩ : ∃ g, goodR cols F = g := ⟨_, rfl⟩
  have HG := hidG hg
  rw [hg]
  clear hg
  go_wp2_with fail
  refine (toLinRowS_any _ F _ (H.out.below HB3.out) HSM.out).mono ?_
  rintro e w4 ⟨v4, rfl, ⟨p4, c4, rfl⟩, hst4, hb4⟩
  have HB4 : Hid (Below w.heap.size w w4) := HB3.out.trans (hb4.mono HB3.out.size)
  have HR4 := hidG hst4.self
  clear hst4 hb4
  go_wp2_with fail
  refine (goodRows_impl cols _ F _ HR4.out HSM.out hc1 hc2).mono ?_
  rintro e w5 ⟨rfl, hb5⟩
  have HB5 : Hid (Below w.heap.size w w5) := HB4.out.trans (hb5.mono HB4.out.size)
  have HR5 := hidG (HR4.out.below hb5)
  rw [HG.out]
  clear hb5
  have last : Calls Try.prog 6 #[.slice a F.length c] w5 (fun e w' => ∃ v', e = .returned v' ∧ (∃ p c, v' = .slice p F.length c) ∧ RowsAt w' v' F ∧ RowsAt w' (.slice p4 F.length c4) F ∧ Below w.heap.size w w') := by
    refine (toLinRowS_any _ F _ (H.out.below HB5.out) HSM.out).mono ?_
    rintro e w6 ⟨v6, rfl, h6, hst6, hb6⟩
    exact ⟨v6, rfl, h6, hst6.self, HR5.out.below hb6, HB5.out.trans (hb6.mono HB5.out.size)⟩
  have LAST := hidG last
  clear last
  cases g
  all_goals
   go_wp2_with fail
   refine LAST.out.mono ?_
   rintro e w6 ⟨v6, rfl, ⟨p6, c6, rfl⟩, hr6, hr4, hb6⟩
   have HR6 := hidG hr6
   have HR46 := hidG hr4
   have HB6 := hidG hb6
   clear hr6 hr4 hb6
   go_wp2_with fail
   refine (eqLinRowS_same _ _ F _ HR46.out HR6.out).mono ?_
   rintro e w7 ⟨rfl, hb7⟩
   have HB7 : Hid (Below w.heap.size w w7) := HB6.out.trans (hb7.mono HB6.out.size)
   clear hb7
   go_wp2_with fail
   go_ret
   exact ⟨rfl, HB7.out⟩
end Go.Proofs.Ytpimiboiogfhbaa.L

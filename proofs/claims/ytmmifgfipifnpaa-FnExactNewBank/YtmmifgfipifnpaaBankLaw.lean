import Derived.Test.YtmmifgfipifnpaaBankNew
import Derived.ShutString
import Derived.Deep.Cut
namespace Go.Proofs.Ytmmifgfipifnpaa
open Go.ChangeShapes Go.WideShapes Go.ChangeAt Go.RowKit
set_option maxRecDepth 100000 in
set_option maxHeartbeats 1000000 in
theorem eqBank_any (g g' : Nat) (w : World) (h : Bx w g terms2) (h' : Bx w g' terms2) :
    Calls Try.prog 6 #[bank2 g, bank2 g'] w fun e w' => e = .returned (.bool true) ∧ Below w.heap.size w w' := by
  unfold bank2
  have H := hidG h
  have H' := hidG h'
  clear h h'
  go_enter Try.func6, Try.ntmps6
  go_wp2_with (first | (go_at_call 9; refine (eqStr_any _).mono ?_; rintro e w' ⟨rfl, rfl⟩) | (go_at_call 10; refine (eqFuns_any _).mono ?_; rintro e w' ⟨rfl, rfl⟩) | (go_at_call 11; refine (eqTerms_any g g' _ ((H.out.alloc _).alloc _) ((H'.out.alloc _).alloc _)).mono ?_; rintro e w9 ⟨rfl, hb⟩; have HB := hidG ((below_al (below_alloc w _) _).trans (hb.mono (below_al (below_alloc w _) _).size)); clear hb))
  go_ret
  exact ⟨rfl, HB.out⟩
set_option maxRecDepth 100000 in
set_option maxHeartbeats 1000000 in
theorem markBank_any (N g : Nat) (w : World) (h : Bx w g terms2) (hN : N ≤ g) :
    Calls Try.prog 7 #[bank2 g, .int .i64 1] w fun e w' => e = .returned (.int .i64 11) ∧ St N g w w' marked2 := by
  unfold bank2
  have H := hidG h
  have HN := hidG hN
  clear h hN
  go_enter Try.func7, Try.ntmps7
  go_wp2_with (first | (go_at_call 12; refine (markStr_any _ _).mono ?_; rintro e w' ⟨rfl, rfl⟩) | (go_at_call 13; refine (markFuns_any _ _).mono ?_; rintro e w' ⟨rfl, rfl⟩) | (go_at_call 14; refine (markTerms_any N g _ (H.out.alloc _) HN.out).mono ?_; rintro e w9 ⟨rfl, hs⟩; have HS := hidG hs; clear hs))
  go_ret
  exact ⟨rfl, HS.out.1, fun b l hb hl => HS.out.2.1 b l hb (hl.alloc _), ((below_alloc w _).mono (by have := H.out.lt; have := HN.out; omega)).trans HS.out.2.2⟩
set_option maxRecDepth 100000 in
set_option maxHeartbeats 1000000 in
theorem heldBank_any (g : Nat) (w : World) (h : Bx w g marked2) :
    Calls Try.prog 8 #[bank2 g, .int .i64 1] w fun e w' => e = .returned (.int .i64 11) ∧ Below w.heap.size w w' := by
  unfold bank2
  have H := hidG h
  clear h
  go_enter Try.func8, Try.ntmps8
  go_wp2_with (first | (go_at_call 15; refine (heldStr_any _ _).mono ?_; rintro e w' ⟨rfl, rfl⟩) | (go_at_call 16; refine (heldFuns_any _ _).mono ?_; rintro e w' ⟨rfl, rfl⟩) | (go_at_call 17; refine (heldTerms_any g _ (H.out.alloc _)).mono ?_; rintro e w9 ⟨rfl, hb⟩; have HB := hidG ((below_alloc w _).trans (hb.mono (below_alloc w _).size)); clear hb))
  go_ret
  exact ⟨rfl, HB.out⟩
end Go.Proofs.Ytmmifgfipifnpaa
namespace Go.Proofs.Ytmmifgfipifnpaa.fnExactNewBank
open Go.ChangeShapes Go.WideShapes Go.ChangeAt Go.RowKit
set_option linter.unusedVariables false
def bx3 (g : Nat) : List Value := [.slice none 0 0, .slice none 0 0, .slice (some ⟨g, 0, none⟩) 2 2]
/-- The two banks and their boxes. -/
structure Inv (w W : World) (bs gs bi g : Nat) (L : List Value) : Prop where
  s : Bx W bs (bx3 gs)
  t : Bx W gs terms2
  i : Bx W bi (bx3 g)
  g : Bx W g L
  b : Below w.heap.size w W
theorem Inv.below {w W W' : World} {bs gs bi g : Nat} {L : List Value} (h : Inv w W bs gs bi g L) (hb : Below W.heap.size W W') : Inv w W' bs gs bi g L :=
  ⟨h.s.below h.s.lt hb, h.t.below h.t.lt hb, h.i.below h.i.lt hb, h.g.below h.g.lt hb, h.b.trans (hb.mono h.b.size)⟩
theorem own : ownKnob Try.prog.godebug = none := by kernel_rfl
set_option maxRecDepth 100000 in
set_option maxHeartbeats 2000000 in
theorem walk (w : World) :
    Calls Try.prog 3 #[] w fun e w' => e = .returned (.bool true) ∧ Below w.heap.size w w' := by
  go_enter Try.func3, Try.ntmps3
  go_wp2_with fail
  refine (newSpec_any _).mono ?_
  rintro e w1 ⟨gs, rfl, hs, hx, hb⟩
  unfold bank2
  obtain ⟨W1, hW1⟩ : ∃ W1, w1.alloc (.cells #[.slice none 0 0, .slice none 0 0, .slice (some ⟨gs, 0, none⟩) 2 2] 26) = W1 := ⟨_, rfl⟩
  have HW1 := hidG hW1
  have HK1 : Hid (Bx W1 w1.heap.size (bx3 gs) ∧ Bx W1 gs terms2 ∧ Below w.heap.size w W1 ∧ gs < w1.heap.size ∧ w1.heap.size < W1.heap.size) := by
    refine ⟨?_, ?_, ?_, hx.lt, ?_⟩
    · rw [← hW1]; exact bx_new w1 (bx3 gs) _
    · rw [← hW1]; exact hx.alloc _
    · rw [← hW1]; exact below_al hb _
    · rw [← hW1, World.size_alloc]; exact Nat.lt_succ_self _
  clear hW1 hx hb hs
  go_wp2_with fail
  rw [HW1.out]
  refine (newImpl_any W1).mono ?_
  rintro e w2 ⟨g, rfl, hs, hx, hb⟩
  unfold bank2
  obtain ⟨W2, hW2⟩ : ∃ W2, w2.alloc (.cells #[.slice none 0 0, .slice none 0 0, .slice (some ⟨g, 0, none⟩) 2 2] 26) = W2 := ⟨_, rfl⟩
  have HW2 := hidG hW2
  have HK2 : Hid (Inv w W2 w1.heap.size gs w2.heap.size g terms2 ∧ w.heap.size ≤ g ∧ gs ≠ g ∧ w1.heap.size ≠ g ∧ w2.heap.size ≠ g) := by
    obtain ⟨a1, a2, a3, a4, a5⟩ := HK1.out
    have hl := hx.lt
    have h3 := a3.size
    refine ⟨⟨?_, ?_, ?_, ?_, ?_⟩, by omega, by omega, by omega, by omega⟩
    · rw [← hW2]; exact (a1.below a1.lt hb).alloc _
    · rw [← hW2]; exact (a2.below a2.lt hb).alloc _
    · rw [← hW2]; exact bx_new w2 (bx3 g) _
    · rw [← hW2]; exact hx.alloc _
    · rw [← hW2]; exact below_al (a3.trans (hb.mono a3.size)) _
  obtain ⟨bs, hbs⟩ : ∃ bs, w1.heap.size = bs := ⟨_, rfl⟩
  obtain ⟨bi, hbi⟩ : ∃ bi, w2.heap.size = bi := ⟨_, rfl⟩
  have HBI := hidG hbi
  rw [hbs, hbi] at HK2
  rw [hbs]
  clear hW2 hx hb hs HK1 hbs hbi
  have HI2 := hidG HK2.out.1
  have HE := hidG HK2.out.2
  have hI := HI2.out
  have k0 := hI.s.cell 0
  have k1 := hI.s.cell 1
  have k2 := hI.s.cell 2
  have j0 := hI.i.cell 0
  have j1 := hI.i.cell 1
  have j2 := hI.i.cell 2
  simp only [bx3, List.getElem?_cons_zero, List.getElem?_cons_succ] at k0 k1 k2 j0 j1 j2
  clear hI
  go_upto_region 3 with fail
  rw [HW2.out, HBI.out]
  go_wp2_with fail
  refine (eqBank_any g gs W2 HI2.out.g HI2.out.t).mono ?_
  rintro e w3 ⟨rfl, hb⟩
  have HI3 := hidG (HI2.out.below hb)
  clear hb k0 k1 k2 j0 j1 j2
  have j0 := HI3.out.i.cell 0
  have j1 := HI3.out.i.cell 1
  have j2 := HI3.out.i.cell 2
  simp only [bx3, List.getElem?_cons_zero, List.getElem?_cons_succ] at j0 j1 j2
  go_wp2_with fail
  refine (markBank_any w.heap.size g w3 HI3.out.g HE.out.1).mono ?_
  rintro e w4 ⟨rfl, hst⟩
  have HI4 : Hid (Inv w w4 bs gs bi g marked2) := ⟨hst.2.1 _ _ HE.out.2.2.1 HI3.out.s, hst.2.1 _ _ HE.out.2.1 HI3.out.t, hst.2.1 _ _ HE.out.2.2.2 HI3.out.i, hst.1, HI3.out.b.trans hst.2.2⟩
  clear hst j0 j1 j2
  have j0 := HI4.out.i.cell 0
  have j1 := HI4.out.i.cell 1
  have j2 := HI4.out.i.cell 2
  simp only [bx3, List.getElem?_cons_zero, List.getElem?_cons_succ] at j0 j1 j2
  go_wp2_with fail
  refine (heldBank_any g w4 HI4.out.g).mono ?_
  rintro e w5 ⟨rfl, hb⟩
  have HI5 := hidG (HI4.out.below hb)
  clear hb j0 j1 j2
  go_wp2_with fail
  refine (newImpl_any w5).mono ?_
  rintro e w6 ⟨gh, rfl, hs, hx, hb⟩
  unfold bank2
  obtain ⟨W6, hW6⟩ : ∃ W6, w6.alloc (.cells #[.slice none 0 0, .slice none 0 0, .slice (some ⟨gh, 0, none⟩) 2 2] 26) = W6 := ⟨_, rfl⟩
  have HW6 := hidG hW6
  have HK6 : Hid (Bx W6 w6.heap.size (bx3 gh) ∧ Bx W6 gh terms2) := by
    refine ⟨?_, ?_⟩
    · rw [← hW6]; exact bx_new w6 (bx3 gh) _
    · rw [← hW6]; exact hx.alloc _
  have HI6 : Hid (Inv w W6 bs gs bi g marked2) := by
    show Inv w W6 bs gs bi g marked2
    rw [← hW6]; exact (HI5.out.below hb).below (below_alloc _ _)
  have j0 := HK6.out.1.cell 0
  have j1 := HK6.out.1.cell 1
  have j2 := HK6.out.1.cell 2
  have k0 := HI6.out.s.cell 0
  have k1 := HI6.out.s.cell 1
  have k2 := HI6.out.s.cell 2
  simp only [bx3, List.getElem?_cons_zero, List.getElem?_cons_succ] at j0 j1 j2 k0 k1 k2
  clear hW6 hx hb hs
  go_upto_region 14 with fail
  rw [HW6.out]
  go_wp2_with fail
  refine (eqBank_any gh gs W6 HK6.out.2 HI6.out.t).mono ?_
  rintro e w7 ⟨rfl, hb⟩
  have HI7 := hidG (HI6.out.below hb)
  clear hb k0 k1 k2 j0 j1 j2
  have j0 := HI7.out.i.cell 0
  have j1 := HI7.out.i.cell 1
  have j2 := HI7.out.i.cell 2
  simp only [bx3, List.getElem?_cons_zero, List.getElem?_cons_succ] at j0 j1 j2
  go_wp2_with fail
  refine (heldBank_any g w7 HI7.out.g).mono ?_
  rintro e w8 ⟨rfl, hb⟩
  have HI8 := hidG (HI7.out.below hb)
  clear hb j0 j1 j2
  go_wp2
  go_ret
  exact ⟨rfl, HI8.out.b⟩
/-! ### THE ROW's STEP -/
set_option maxRecDepth 100000 in
theorem lifted (os : Os) (started : os.Started) (H : Type) (enc : TypeId × Value → H) :
    ReturnsInHanded {} Try.checked os 3 .any (Rows.fnExactNewBankSpec.pre6 enc Try.prog Try.f3 Rows.fnExactNewBankRow.domain false) (Rows.fnExactNewBankSpec.post enc Try.prog Try.f3 false true false false) := by
  refine returnsInHanded_of_change (C := Try.checked) own started (by kernel_rfl) Try.func3
    (ChangeSpec.witness6 (enc := enc) (C := Try.checked) false ⟨#[], #[], []⟩ 8 (by kernel_rfl) (by kernel_rfl) (by kernel_rfl) (by kernel_rfl)) ?_
  intro W base args ds gs before hval0 hW hcnd _
  have hW' := hW
  obtain ⟨p, q, hA0, hV, rfl, hfz, hnd⟩ := hW
  have hA : DataW.TrodAll enc Try.prog W 0 (fun _ => true) true Try.f3.params.toList args.toList ds p := hA0
  rw [Try.params3] at hA
  obtain ⟨ha, rfl, rfl⟩ := trodAll_nil hA
  obtain rfl : args = #[] := by cases args; simp_all
  obtain ⟨rfl, rfl⟩ := trodVars_none hV
  clear hA0 hval0
  simp only [List.append_nil] at hW'
  refine (walk W).mono fun e W' ⟨he, hg⟩ => ?_
  subst he
  exact ⟨_, rfl, _, _, _, [], [], [], hW', trodAll_mk1 (shut_bool Try.underlying4 _), trodAll_mk0, rfl, hg.frame _, fun h => by cases h⟩
theorem over : Rows.fnExactNewBankRow.holds Try.pinned (OpenSpec.ofChange Rows.fnExactNewBankSpec) :=
  OpenClaim.holds_of_wide 3 Try.f3 rfl rfl rfl rfl rfl rfl rfl ⟨rfl, rfl, rfl, rfl, rfl⟩ rfl rfl rfl rfl rfl (by kernel_rfl) Try.func3 (by kernel_rfl)
    (of_decide_eq_true (by kernel_rfl)) (by unfold Func.isWrapper; first | (rw [if_pos (by decide +kernel)]; kernel_rfl) | (rw [if_neg (by decide +kernel)]; exact ⟨rfl, rfl⟩))
    (fun os started H enc _ => lifted os started H enc)
end Go.Proofs.Ytmmifgfipifnpaa.fnExactNewBank
namespace Go.Proofs.Ytmmifgfipifnpaa
theorem fnExactNewBank_holds : Rows.FnExactNewBankSaid := fnExactNewBank.over
#print axioms fnExactNewBank_holds
end Go.Proofs.Ytmmifgfipifnpaa

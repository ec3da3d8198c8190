import Derived.Test.YtdngpnlbhadbpaaRows
import Derived.Test.YtdngpnlbhadbpaaTkNQ
import Derived.WalkKit
import Derived.Below
import Derived.ProofKit
import Derived.OpenShut
import Derived.ShutString
namespace Go.Proofs.Ytdngpnlbhadbpaa.fnExactReadTree
open Go.ChangeShapes Go.WideShapes Go.ChangeAt Go.RowKit
open Go.ChangeMaps (open_string shut_string)
set_option linter.unusedVariables false      -- a walk need not use every 'w<i>' (that an integer argument fits its kind)

theorem own : ownKnob Try.prog.godebug = none := by kernel_rfl

/-! ### STEP 1: THE WALK: the Go text returns true. 'Grown w w'': the world has at most new blocks (Derived/RowKit3.lean). Part the cases AHEAD of 'go_enter' where a test parts the walk; take each callee by a contract of your own. -/
theorem bx_kept {W W' : World} {g : Nat} {l : List Value} {o : Option Nat} (h : Bx W g l) (hk : ∀ b, b < W.heap.size → o ≠ some b → W'.heap[b]? = W.heap[b]?) (ho : o ≠ some g) : Bx W' g l := by
  have hlt := h.lt
  obtain ⟨ty, h⟩ := h
  exact ⟨ty, (hk g hlt ho).trans h⟩
set_option maxRecDepth 100000 in
set_option maxHeartbeats 4000000 in
theorem walk (a0 : ByteArray) (w0 : a0.size ≤ maxLen) (w : World) :
    Calls Try.prog 3 #[.string a0] w fun e w' => e = .returned (.bool true) ∧ Below w.heap.size w w' := by
  unfold maxLen at w0
  by_cases c : 1048576 < a0.size
  · go_enter Try.func3, Try.ntmps3
    go_wp2_with fail
    go_ret
    exact ⟨rfl, Below.refl _ _⟩
  · obtain ⟨R, hR⟩ := reads_some a0
    have hc : a0.size ≤ 1048576 := by omega
    have hn := reads_ns hR
    have HC := hidG hc
    have HR := hidG hR
    obtain ⟨n, hnn⟩ : ∃ n, R.ns.length = n := ⟨_, rfl⟩
    obtain ⟨f0, hf0⟩ : ∃ f0, R.f0 = f0 := ⟨_, rfl⟩
    obtain ⟨f1, hf1⟩ : ∃ f1, R.f1 = f1 := ⟨_, rfl⟩
    have HNN := hidG hnn
    rw [hnn] at hn
    have HSP : Hid (∀ w, Calls Try.prog 4 #[.string a0] w fun e w' => (∃ va vc, e = .returned (.agg #[.int .i64 f0, .int .i64 f1, .slice va n vc]) ∧ w'.ownsRow w.heap.size 35 4 (.slice va n vc) n (cellsN R.ns)) ∧ Below w.heap.size w w') := fun w => by
      have := specRead_any a0 R w hc hR; rw [hnn, hf0, hf1] at this; exact this
    have HIM : Hid (∀ w, Calls Try.prog 5 #[.string a0] w fun e w' => (∃ va vc, e = .returned (.agg #[.int .i64 f0, .int .i64 f1, .slice va n vc]) ∧ w'.ownsRow w.heap.size 35 4 (.slice va n vc) n (cellsN R.ns)) ∧ Below w.heap.size w w') := fun w => by
      have := implRead_any a0 R w hc hR; rw [hnn, hf0, hf1] at this; exact this
    have HEQ : Hid (∀ (va vb : Option Addr) (ca cb b1 b2 : Nat) (w : World), w.ownsRow b1 35 4 (.slice va n ca) n (cellsN R.ns) → w.ownsRow b2 35 4 (.slice vb n cb) n (cellsN R.ns) → Calls Try.prog 6 #[.agg #[.int .i64 f0, .int .i64 f1, .slice va n ca], .agg #[.int .i64 f0, .int .i64 f1, .slice vb n cb]] w fun e w' => e = .returned (.bool true) ∧ Below w.heap.size w w') := fun va vb ca cb b1 b2 w h1 h2 => by
      rw [← hnn] at h1 h2 ⊢
      exact eqTR_rows f0 f1 va vb ca cb R.ns w h1 h2 (by omega)
    have HMK : Hid (∀ (va : Option Addr) (ca b1 : Nat) (w : World), w.ownsRow b1 35 4 (.slice va n ca) n (cellsN R.ns) → b1 ≤ w.heap.size → Calls Try.prog 7 #[.agg #[.int .i64 f0, .int .i64 f1, .slice va n ca], .int .i64 1] w fun e w' => e = .returned (.int .i64 (1 + 4 * n : Nat)) ∧ w'.ownsRow b1 35 4 (.slice va n ca) n (cellsN (markL 1 n)) ∧ (∀ b, b < w.heap.size → Value.ownBlock (.slice va n ca) ≠ some b → w'.heap[b]? = w.heap[b]?) ∧ Below b1 w w') := fun va ca b1 w h1 hb => by
      rw [← hnn] at h1 ⊢
      exact markTR_rows f0 f1 va ca R.ns w h1 (by omega) hb
    have HHD : Hid (∀ (va : Option Addr) (ca b1 : Nat) (w : World), w.ownsRow b1 35 4 (.slice va n ca) n (cellsN (markL 1 n)) → Calls Try.prog 8 #[.agg #[.int .i64 f0, .int .i64 f1, .slice va n ca], .int .i64 1] w fun e w' => e = .returned (.int .i64 (1 + 4 * n : Nat)) ∧ Below w.heap.size w w') := fun va ca b1 w h1 => heldTR_rows f0 f1 va n ca w h1 hn
    obtain ⟨M, hM⟩ : ∃ M : Int, ((1 + 4 * n : Nat) : Int) = M := ⟨_, rfl⟩
    have HM := hidG hM
    have hM0 : 0 ≤ M := by omega
    clear hR hnn hf0 hf1 hM hc
    go_enter Try.func3, Try.ntmps3
    go_wp2_with first
      | (go_at_call 4; refine (HSP.out _).mono ?_; rintro e w1 ⟨⟨va0, vc0, rfl, hs1⟩, hb1⟩; have HS1 := hidG hs1; have HB1 := hidG hb1; clear hs1 hb1)
      | (go_at_call 5; have hguard := HB4.out; clear hguard; refine (HIM.out _).mono ?_; rintro e w6 ⟨⟨va2, vc2, rfl, hs6⟩, hb6⟩; have HI6 := hidG hs6; have HS6 := hidG (own_bel' HS5.out hb6); have HG6 := hidG (own_bel' HG5.out hb6); have HX0 := hidG (HX0.out.below HX0.out.lt hb6); have HX1 := hidG (HX1.out.below HX1.out.lt hb6); have hx0 := HX0.out; have hx1 := HX1.out; obtain ⟨p0, p1, p2⟩ := hx0.c3; obtain ⟨q0, q1, q2⟩ := hx1.c3; have l0 := hx0.lt; have l1 := hx1.lt; have HB6 : Hid (Below w.heap.size w w6) := HB5.out.trans (hb6.mono HB5.out.size); clear hs6 hb6 hx0 hx1)
      | (go_at_call 5; refine (HIM.out _).mono ?_; rintro e w2 ⟨⟨va1, vc1, rfl, hs2⟩, hb2⟩; have HG2 := hidG hs2; have HS2 := hidG (own_bel' (HS1.out.alloc _) hb2); have HX0 := hidG ((bx_new w1 [.int .i64 f0, .int .i64 f1, .slice va0 n vc0] 24).below (bx_new w1 [.int .i64 f0, .int .i64 f1, .slice va0 n vc0] 24).lt hb2); have hx0 := HX0.out; obtain ⟨p0, p1, p2⟩ := hx0.c3; have l0 := hx0.lt; have HB2 : Hid (Below w.heap.size w w2) := (HB1.out.alloc HB1.out.size _).trans (hb2.mono (by have := HB1.out.size; simp; omega)); have hz2 : w1.heap.size + 1 ≤ w2.heap.size := (by have := hb2.size; simpa using this); clear hs2 hb2 hx0)
      | (go_at_call 6; have hguard := HB6.out; clear hguard; refine (HEQ.out _ _ _ _ _ _ _ (HI6.out.alloc _) (HS6.out.alloc _)).mono ?_; rintro e w7 ⟨rfl, hb7⟩; have HG7 := hidG (own_bel' (HG6.out.alloc _) hb7); have HX1 := hidG ((HX1.out.alloc _).below (HX1.out.alloc _).lt hb7); have hx1 := HX1.out; obtain ⟨q0, q1, q2⟩ := hx1.c3; have l1 := hx1.lt; have HB7 : Hid (Below w.heap.size w w7) := (HB6.out.alloc HB6.out.size _).trans (hb7.mono (by have := HB6.out.size; simp; omega)); clear hb7 hx1)
      | (go_at_call 6; refine (HEQ.out _ _ _ _ _ _ _ (HG2.out.alloc _) (HS2.out.alloc _)).mono ?_; rintro e w3 ⟨rfl, hb3⟩; have HG3 := hidG (own_bel' (HG2.out.alloc _) hb3); have HS3 := hidG (own_bel' (HS2.out.alloc _) hb3); have HX1 := hidG ((bx_new w2 [.int .i64 f0, .int .i64 f1, .slice va1 n vc1] 24).below (bx_new w2 [.int .i64 f0, .int .i64 f1, .slice va1 n vc1] 24).lt hb3); have HX0 := hidG ((HX0.out.alloc _).below (HX0.out.alloc _).lt hb3); have hx1 := HX1.out; obtain ⟨q0, q1, q2⟩ := hx1.c3; have l1 := hx1.lt; have HB3 : Hid (Below w.heap.size w w3) := (HB2.out.alloc HB2.out.size _).trans (hb3.mono (by have := HB2.out.size; simp; omega)); have hz3 : w1.heap.size + 1 ≤ w3.heap.size := (by have := hb3.size; simp at this; omega); clear hb3 hx1)
      | (go_at_call 7; refine (HMK.out _ _ _ _ HG3.out (by simpa using hz3)).mono ?_; rintro e w4 ⟨rfl, hg4, hk4, hb4⟩; rw [HM.out]; have HG4 := hidG hg4; have HS4 := hidG (own_under (HS1.out.alloc (.cells #[.int .i64 f0, .int .i64 f1, .slice va0 n vc0] 24)) (Nat.le_refl _) HS3.out hb4); have HX0 := hidG (bx_kept HX0.out hk4 (fun e => by have := (HG2.out.lt _ e).1; simp at this; omega)); have HX1 := hidG (bx_kept HX1.out hk4 (fun e => by have := (HG2.out.lt _ e).2; omega)); have hx1 := HX1.out; obtain ⟨q0, q1, q2⟩ := hx1.c3; have l1 := hx1.lt; have HB4 : Hid (Below w.heap.size w w4) := HB3.out.trans (hb4.mono (by have := HB1.out.size; simp; omega)); clear hg4 hk4 hb4 hx1)
      | (go_at_call 8; have hguard := HB7.out; clear hguard; refine (HHD.out _ _ _ _ HG7.out).mono ?_; rintro e w8 ⟨rfl, hb8⟩; rw [HM.out]; have HB8 : Hid (Below w.heap.size w w8) := HB7.out.trans (hb8.mono HB7.out.size); clear hb8)
      | (go_at_call 8; refine (HHD.out _ _ _ _ HG4.out).mono ?_; rintro e w5 ⟨rfl, hb5⟩; rw [HM.out]; have HG5 := hidG (own_bel' HG4.out hb5); have HS5 := hidG (own_bel' HS4.out hb5); have HX0 := hidG (HX0.out.below HX0.out.lt hb5); have HX1 := hidG (HX1.out.below HX1.out.lt hb5); have HB5 : Hid (Below w.heap.size w w5) := HB4.out.trans (hb5.mono HB4.out.size); clear hb5)
    go_ret
    exact ⟨rfl, HB8.out⟩

/-! ### THE ROW's STEP: WRITTEN OUT: LEAVE IT -/
set_option maxRecDepth 100000 in
theorem lifted (os : Os) (started : os.Started) (H : Type) (enc : TypeId × Value → H) :
    ReturnsInHanded {} Try.checked os 3 .any (Rows.fnExactReadTreeSpec.pre6 enc Try.prog Try.f3 Rows.fnExactReadTreeRow.domain false) (Rows.fnExactReadTreeSpec.post enc Try.prog Try.f3 false true false false) := by
  refine returnsInHanded_of_change (C := Try.checked) own started (by kernel_rfl) Try.func3
    (ChangeSpec.witness6 (enc := enc) (C := Try.checked) false ⟨#[], #[.string ByteArray.empty], []⟩ 8 (by kernel_rfl) (by kernel_rfl) (by kernel_rfl) (by kernel_rfl)) ?_
  intro W base args ds gs before hval0 hW hcnd _
  have hval : ∀ (j : Nat) t v, Try.f3.params[j]? = some t → args[j]? = some v → Value.okWide Try.prog W .any base t v := hval0
  have hW' := hW
  obtain ⟨p, q, hA0, hV, rfl, hfz, hnd⟩ := hW
  have hA : DataW.TrodAll enc Try.prog W 0 (fun _ => true) true Try.f3.params.toList args.toList ds p := hA0
  rw [Try.params3] at hA hval
  obtain ⟨v0, vs0, d0, ds0, p0, q0, hargs, rfl, rfl, h0, r0⟩ := trodAll_cons hA
  obtain ⟨rfl, rfl, rfl⟩ := trodAll_nil r0
  obtain rfl : args = #[v0] := by cases args; simp_all
  obtain ⟨rfl, rfl⟩ := trodVars_none hV
  obtain ⟨a0, rfl, rfl, rfl, w0⟩ := open_string Try.underlying9 (hval 0 9 v0 rfl rfl) h0
  clear hA0 hval0
  simp only [List.append_nil] at hW'
  refine (walk a0 w0 W).mono fun e W' ⟨he, hg⟩ => ?_
  subst he
  exact ⟨_, rfl, _, _, _, [], [], [], hW', trodAll_mk1 (shut_bool Try.underlying4 _), (trodAll_cons_mk (shut_string Try.underlying9 w0) trodAll_mk0), rfl, hg.frame _, fun h => by cases h⟩

theorem over : Rows.fnExactReadTreeRow.holds Try.pinned (OpenSpec.ofChange Rows.fnExactReadTreeSpec) :=
  OpenClaim.holds_of_wide 3 Try.f3 rfl rfl rfl rfl rfl rfl rfl ⟨rfl, rfl, rfl, rfl, rfl⟩ rfl rfl rfl rfl rfl (by kernel_rfl) Try.func3 (by kernel_rfl)
    (of_decide_eq_true (by kernel_rfl)) (by unfold Func.isWrapper; first | (rw [if_pos (by decide +kernel)]; kernel_rfl) | (rw [if_neg (by decide +kernel)]; exact ⟨rfl, rfl⟩))
    (fun os started H enc _ => lifted os started H enc)

end Go.Proofs.Ytdngpnlbhadbpaa.fnExactReadTree
namespace Go.Proofs.Ytdngpnlbhadbpaa
theorem fnExactReadTree_holds : Rows.FnExactReadTreeSaid := fnExactReadTree.over
#print axioms fnExactReadTree_holds
end Go.Proofs.Ytdngpnlbhadbpaa

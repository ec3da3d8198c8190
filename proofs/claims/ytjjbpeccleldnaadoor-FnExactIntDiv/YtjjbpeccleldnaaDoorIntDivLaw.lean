import Derived.Test.YtjjbpeccleldnaaDoorRows
import Derived.Test.YtjjbpeccleldnaaDoorCards
import Derived.Test.YtjjbpeccleldnaaDoorTie
import Derived.Test.YtjjbpeccleldnaaDoorK3
import Derived.Test.YtjjbpeccleldnaaDoorDivSpec
import Derived.WalkKit
import Derived.ProofKit
import Derived.OpenShut
import Derived.ShutString
import Derived.ChangeOld
import Derived.ChangeVars
import Derived.Below
import Derived.WalkSmall
import Derived.LaidMore
import Derived.Lay
import Derived.Stop.Joined
import Derived.SevenTiedAt
namespace Go.Proofs.YtjjbpeccleldnaaDoor.fnExactIntDiv
open Go.ChangeShapes Go.WideShapes Go.ChangeAt Go.RowKit
open Go.ChangeMaps (open_string shut_string)
set_option linter.unusedVariables false
theorem own : ownKnob Tryd.prog.godebug = none := by kernel_rfl
theorem laidOut : laidOutB Tryd.prog = true := by kernel_rfl
set_option maxRecDepth 100000 in
set_option maxHeartbeats 1000000 in
theorem walk (a0 a1 : ByteArray) (w0 : a0.size ≤ maxLen) (w1 : a1.size ≤ maxLen) (w : World) (h : LT w ∧ SP w) :
    Calls Tryd.prog 6 #[.string a0, .string a1] w fun e w' => e = .returned (.bool true) ∧ Below w.heap.size w w' := by
  have hs := w0
  have ht := w1
  have HS : Hid (LT w ∧ SP w) := h
  clear h
  unfold maxLen at w0 w1
  by_cases c : 1048576 < a0.size
  · have z : decide (1048576 < (a0.size : Int)) = true := by rw [decide_eq_true_iff]; omega
    go_enter Tryd.func6, Tryd.ntmps6
    go_wp2
    go_ret
    exact ⟨rfl, Below.refl _ _⟩
  have z : decide (1048576 < (a0.size : Int)) = false := by rw [decide_eq_false_iff_not]; omega
  by_cases c2 : 1048576 < a1.size
  · have z2 : decide (1048576 < (a1.size : Int)) = true := by rw [decide_eq_true_iff]; omega
    go_enter Tryd.func6, Tryd.ntmps6
    go_wp2
    go_ret
    exact ⟨rfl, Below.refl _ _⟩
  have z2 : decide (1048576 < (a1.size : Int)) = false := by rw [decide_eq_false_iff_not]; omega
  clear c c2
  go_enter Tryd.func6, Tryd.ntmps6
  go_wp2_with fail
  refine (specDiv_any a0 a1 _ hs ht).mono ?_
  rintro e W1 ⟨u, u', rfl, hu, hb1⟩
  have HU : Hid (IsResD a0 a1 u u') := hu
  have HB1 : Hid (Below w.heap.size w W1) := hb1
  clear hb1 hu
  go_wp2_with fail
  refine (implDiv_any a0 a1 _ hs ht (HS.out.2.below HB1.out) (HS.out.1.below HB1.out)).mono ?_
  rintro e W2 ⟨v, v', rfl, hv, hb2⟩
  obtain ⟨e1, e2⟩ := hv.eq HU.out
  subst e1 e2
  have HB2 : Hid (Below w.heap.size w W2) := HB1.out.trans (hb2.mono HB1.out.size)
  clear hb2 hv
  go_wp2
  go_ret
  exact ⟨rfl, HB2.out⟩
set_option maxRecDepth 100000 in
theorem lifted (os : Os) (started : os.Started) (H : Type) (enc : TypeId × Value → H) :
    ReturnsInHanded {} Tryd.checked os 6 .any (fun w args => (Rows.fnExactIntDivSpec.pre enc Tryd.prog Tryd.f6 [] false w args ∧ laidMetH Tryd.prog Rows.fnExactIntDivRow.laid w) ∧ sizedMet enc Tryd.prog Tryd.f6 (OpenSpec.ofChange Rows.fnExactIntDivSpec) false w args)
      (Rows.fnExactIntDivSpec.post enc Tryd.prog Tryd.f6 false true false false) := by
  refine returnsInHanded_of_change_and (C := Tryd.checked) (X := fun w _ => laidMetH Tryd.prog Rows.fnExactIntDivRow.laid w) (fun _ _ _ hh h => h.of_heap hh) own started (by kernel_rfl) Tryd.func6
    (ChangeSpec.witness_shaped (enc := enc) (C := Tryd.checked) (os := os) (X := fun w _ => laidMetH Tryd.prog Rows.fnExactIntDivRow.laid w) false (World.laidAll Tryd.prog os Rows.fnExactIntDivRow.laid) #[.string ByteArray.empty, .string ByteArray.empty] 8 (World.laidAll_os _ _ _)
      (World.shaped_of_ZipB (by kernel_rfl) (by kernel_rfl)) (by kernel_rfl) (by kernel_rfl) (by kernel_rfl)
      (by rw [MakeChecks.laidMetH_plain _ _ _ (by kernel_rfl)]; exact laidMet_laidAll _ (by kernel_rfl) (by kernel_rfl))) ?_
  intro W base args ds gs before hval0 hW _ _ hL _
  have hval : ∀ (j : Nat) t v, Tryd.f6.params[j]? = some t → args[j]? = some v → Value.okWide Tryd.prog W .any base t v := hval0
  have hW' := hW
  obtain ⟨p, q, hA0, hV, rfl, hfz, hnd⟩ := hW
  have hA : DataW.TrodAll enc Tryd.prog W 0 (fun _ => true) true Tryd.f6.params.toList args.toList ds p := hA0
  rw [Tryd.params6] at hA hval
  obtain ⟨v0, vs0, d0, ds0, p0, q0, hargs, rfl, rfl, h0, r0⟩ := trodAll_cons hA
  obtain ⟨v1, vs1, d1, ds1, p1, q1, rfl, rfl, rfl, h1, r1⟩ := trodAll_cons r0
  obtain ⟨rfl, rfl, rfl⟩ := trodAll_nil r1
  obtain rfl : args = #[v0, v1] := by cases args; simp_all
  obtain ⟨g, t, cs, fuel, d, p', g2, t2, cs2, fuel2, dd, pp, rfl, hg, ht, hvar, hd, hg2, ht2, hvar2, hd2, rfl⟩ := trodVars_two hV
  obtain ⟨a0, rfl, rfl, rfl, w0⟩ := open_string Tryd.underlying9 (hval 0 9 v0 rfl rfl) h0
  obtain ⟨a1, rfl, rfl, rfl, w1⟩ := open_string Tryd.underlying9 (hval 1 9 v1 rfl rfl) h1
  rw [MakeChecks.laidMetH_plain _ _ _ (by kernel_rfl)] at hL
  have hsp : LT W ∧ SP W := both_of_laid hL
  clear hA0 hval0
  refine (walk a0 a1 w0 w1 W hsp).mono fun e W' ⟨he, bel⟩ => ?_
  subst he
  have hlt1 : 0 < W.heap.size := cell_lt hsp.2.1.1
  have hlt2 : 2 < W.heap.size := block_lt hsp.1
  obtain rfl := Option.some.inj (gSigns.symm.trans hg)
  obtain rfl := Option.some.inj (tSigns.symm.trans ht)
  obtain rfl := Option.some.inj (gTens.symm.trans hg2)
  obtain rfl := Option.some.inj (tTens.symm.trans ht2)
  have hdx : DataW.trod enc Tryd.prog W 0 (fun _ => true) true fuel 75 cs.toList = some (d, p') := hd
  have hdy : DataW.trod enc Tryd.prog W 0 (fun _ => true) true fuel2 97 cs2.toList = some (dd, pp) := hd2
  have hvx : W.var? Tryd.prog "loop.example/g00007/impl.signPairs" = some cs := hvar
  have hvy : W.var? Tryd.prog "loop.example/g00007/impl.limbTens" = some cs2 := hvar2
  have hltx : ∀ x ∈ p', x.block < W.heap.size := DataW.trod_lt fuel _ _ _ hdx
  have hlty : ∀ x ∈ pp, x.block < W.heap.size := DataW.trod_lt fuel2 _ _ _ hdy
  obtain ⟨fuel', hd'⟩ := Below.trod laidOut (by kernel_rfl) (of_decide_eq_true (by kernel_rfl)) (v := .agg cs) (⟨fuel, by simpa [Value.cells] using hdx⟩ : DataW.Trod enc Tryd.prog W 0 (fun _ => true) true 75 (.agg cs) d p') bel hltx
  obtain ⟨fuel'', hd''⟩ := Below.trod laidOut (by kernel_rfl) (of_decide_eq_true (by kernel_rfl)) (v := .agg cs2) (⟨fuel2, by simpa [Value.cells] using hdy⟩ : DataW.Trod enc Tryd.prog W 0 (fun _ => true) true 97 (.agg cs2) dd pp) bel hlty
  have hd3 : DataW.trod enc Tryd.prog W' 0 (fun b => decide (b < W.heap.size)) true fuel' 75 cs.toList = some (d, p') := by simpa [Value.cells] using hd'
  have hd4 : DataW.trod enc Tryd.prog W' 0 (fun b => decide (b < W.heap.size)) true fuel'' 97 cs2.toList = some (dd, pp) := by simpa [Value.cells] using hd''
  have hv2 := trodVars_mk1 (enc := enc) (spare := fun b => decide (b < W.heap.size)) gTens tTens (var?_below bel gTens hlt2 hvy) hd4
  have hv' : DataW.TrodVars enc Tryd.prog W' (fun b => decide (b < W.heap.size)) ["loop.example/g00007/impl.signPairs", "loop.example/g00007/impl.limbTens"] [d, dd] (MemPlace.row ⟨0, 0, none⟩ cs.size ++ p' ++ (MemPlace.row ⟨2, 0, none⟩ cs2.size ++ pp)) :=
    ⟨_, _, cs, fuel', p', _, gSigns, tSigns, var?_below bel gSigns hlt1 hvx, hd3, hv2, rfl⟩
  exact ⟨_, rfl, _, _, _, [], [], _, hW', trodAll_mk1 (shut_bool Tryd.underlying4 _), (trodAll_cons_mk (shut_string Tryd.underlying9 w0) (trodAll_cons_mk (shut_string Tryd.underlying9 w1) trodAll_mk0)), hv', bel.frame _, fun h => by cases h⟩

theorem over : Rows.fnExactIntDivRow.holds Tryd.pinned (OpenSpec.ofChange Rows.fnExactIntDivSpec) :=
  OpenClaim.holds_of_wide 6 Tryd.f6 rfl rfl rfl rfl rfl rfl rfl ⟨rfl, rfl, rfl, rfl, rfl⟩ rfl rfl rfl rfl rfl (by kernel_rfl) Tryd.func6 (by kernel_rfl)
    (of_decide_eq_true (by kernel_rfl)) (by unfold Func.isWrapper; first | (rw [if_pos (by decide +kernel)]; kernel_rfl) | (rw [if_neg (by decide +kernel)]; exact ⟨rfl, rfl⟩))
    (fun os started H enc _ => lifted os started H enc)
theorem plain (f : FuncId) (fn : Func) (hf : Tryd.pinned.checked.prog.funcNamed "loop.example/g00007/laws.FnExactIntDiv" = some f) (hfn : Tryd.pinned.checked.prog.funcs[f]? = some fn) :
    false = Tryd.pinned.checked.prog.looks [] ∧ ∀ (j : Nat) t, fn.params[j]? = some t → Tryd.pinned.checked.prog.wantsStandIn t = false := by
  obtain rfl : f = 6 := Option.some.inj ((show Tryd.prog.funcNamed "loop.example/g00007/laws.FnExactIntDiv" = some 6 by kernel_rfl).symm.trans hf) |>.symm
  obtain rfl : fn = Tryd.f6 := (Option.some.inj (Tryd.func6.symm.trans hfn)).symm
  refine ⟨by kernel_rfl, fun j t ht => ?_⟩
  rw [Tryd.params6] at ht
  obtain rfl : t = 9 := by simpa using Array.mem_of_getElem? ht
  exact (show Tryd.prog.wantsStandIn 9 = false by kernel_rfl)
end Go.Proofs.YtjjbpeccleldnaaDoor.fnExactIntDiv
namespace Go.Proofs.YtjjbpeccleldnaaDoor
theorem fnExactIntDiv_holds : Rows.FnExactIntDivCardSaid :=
  Claim7.holds_tied_plain_at .later [] _ _ _ _ fnExactIntDiv.over (fun _ h => by cases h) (by kernel_rfl) (fun _ h => by cases h) fnExactIntDiv_row_tie rfl ⟨rfl, rfl⟩ (by kernel_rfl) rfl fnExactIntDiv.plain (by kernel_rfl)
#print axioms fnExactIntDiv_holds
end Go.Proofs.YtjjbpeccleldnaaDoor

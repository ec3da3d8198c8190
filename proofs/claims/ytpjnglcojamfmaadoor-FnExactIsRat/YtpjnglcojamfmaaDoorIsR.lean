import Derived.Test.YtpjnglcojamfmaaDoorK2
import Derived.Test.YtpjnglcojamfmaaDoorRatF
import Derived.Test.YtpjnglcojamfmaaDoorRows
import Derived.Test.YtpjnglcojamfmaaDoorCards
import Derived.Test.YtpjnglcojamfmaaDoorTie
import Derived.Test.YtpjnglcojamfmaaDoorK3
import Derived.WalkKit
import Derived.ProofKit
import Derived.OpenShut
import Derived.ShutString
import Derived.ChangeOld
import Derived.ChangeVars
import Derived.Below
import Derived.WalkSmall
import Derived.LaidMore
import Derived.Lay
import Derived.Stop.Joined
import Derived.SevenTiedAt
namespace Go.Proofs.YtpjnglcojamfmaaDoor
open Go.ChangeShapes Go.WideShapes Go.ChangeAt Go.RowKit
set_option maxRecDepth 100000 in
set_option maxHeartbeats 1000000 in
theorem implIsRat_any (s : ByteArray) (w : World) (hs : s.size ≤ maxLen) (hSP : SP w) (hNS : NS w) (hLT : LT w) :
    Calls Tryd.prog 6 #[.string s] w fun e w' => ∃ b, e = .returned (.bool b) ∧ IsRatB s b ∧ Below w.heap.size w w' := by
  obtain ⟨k, hk⟩ := isCut_ex s
  have HK := hidG hk
  have HSP := hidG hSP
  have HNS := hidG hNS
  have HLT := hidG hLT
  clear hk hSP hNS hLT
  go_enter Tryd.func6, Tryd.ntmps6
  go_wp2_with fail
  refine (readRational_any s k _ hs HK.out HSP.out HNS.out HLT.out).mono ?_
  rintro e w1 ⟨z, ok, rfl, hR, hb1⟩
  have HB1 := hidG hb1
  have HF : Hid (IsRatB s ok) := ⟨k, HK.out, hR.2.1⟩
  obtain ⟨s1, p1, l1, c1, s2, p2, l2, c2, rfl⟩ := hR.1
  clear hR hb1
  go_wp2
  go_ret
  exact ⟨ok, rfl, HF.out, HB1.out.alloc HB1.out.size _⟩
end Go.Proofs.YtpjnglcojamfmaaDoor
namespace Go.Proofs.YtpjnglcojamfmaaDoor.fnExactIsRat
open Go.ChangeShapes Go.WideShapes Go.ChangeAt Go.RowKit
open Go.ChangeMaps (open_string shut_string)
set_option linter.unusedVariables false
theorem own : ownKnob Tryd.prog.godebug = none := by kernel_rfl
theorem laidOut : laidOutB Tryd.prog = true := by kernel_rfl
set_option maxRecDepth 100000 in
set_option maxHeartbeats 1000000 in
theorem walk (a0 : ByteArray) (w0 : a0.size ≤ maxLen) (w : World) (h : LT w ∧ SP w ∧ NS w) :
    Calls Tryd.prog 3 #[.string a0] w fun e w' => e = .returned (.bool true) ∧ Below w.heap.size w w' := by
  have hs := w0
  have HS : Hid (LT w ∧ SP w ∧ NS w) := h
  clear h
  unfold maxLen at w0
  by_cases c : 1048576 < a0.size
  · have z : decide (1048576 < (a0.size : Int)) = true := by rw [decide_eq_true_iff]; omega
    go_enter Tryd.func3, Tryd.ntmps3
    go_wp2
    go_ret
    exact ⟨rfl, Below.refl _ _⟩
  have z : decide (1048576 < (a0.size : Int)) = false := by rw [decide_eq_false_iff_not]; omega
  clear c
  go_enter Tryd.func3, Tryd.ntmps3
  go_wp2_with fail
  refine (specIsRat_any a0 _ hs).mono ?_
  rintro e W1 ⟨u, rfl, hu, hb1⟩
  have HU : Hid (IsRatB a0 u) := hu
  have HB1 : Hid (Below w.heap.size w W1) := hb1
  clear hb1 hu
  go_wp2_with fail
  refine (implIsRat_any a0 _ hs (HS.out.2.1.below HB1.out) (HS.out.2.2.below HB1.out) (HS.out.1.below HB1.out)).mono ?_
  rintro e W2 ⟨v, rfl, hv, hb2⟩
  have e1 : v = u := isRatB_unique hv HU.out
  subst e1
  have HB2 : Hid (Below w.heap.size w W2) := HB1.out.trans (hb2.mono HB1.out.size)
  clear hb2 hv
  cases v
  all_goals
    go_wp2
    go_ret
    exact ⟨rfl, HB2.out⟩
set_option maxRecDepth 100000 in
theorem lifted (os : Os) (started : os.Started) (H : Type) (enc : TypeId × Value → H) :
    ReturnsInHanded {} Tryd.checked os 3 .any (fun w args => (Rows.fnExactIsRatSpec.pre enc Tryd.prog Tryd.f3 [] false w args ∧ laidMetH Tryd.prog Rows.fnExactIsRatRow.laid w) ∧ sizedMet enc Tryd.prog Tryd.f3 (OpenSpec.ofChange Rows.fnExactIsRatSpec) false w args)
      (Rows.fnExactIsRatSpec.post enc Tryd.prog Tryd.f3 false true false false) := by
  refine returnsInHanded_of_change_and (C := Tryd.checked) (X := fun w _ => laidMetH Tryd.prog Rows.fnExactIsRatRow.laid w) (fun _ _ _ hh h => h.of_heap hh) own started (by kernel_rfl) Tryd.func3
    (ChangeSpec.witness_shaped (enc := enc) (C := Tryd.checked) (os := os) (X := fun w _ => laidMetH Tryd.prog Rows.fnExactIsRatRow.laid w) false (World.laidAll Tryd.prog os Rows.fnExactIsRatRow.laid) #[.string ByteArray.empty] 8 (World.laidAll_os _ _ _)
      (World.shaped_of_ZipB (by kernel_rfl) (by kernel_rfl)) (by kernel_rfl) (by kernel_rfl) (by kernel_rfl)
      (by rw [MakeChecks.laidMetH_plain _ _ _ (by kernel_rfl)]; exact laidMet_laidAll _ (by kernel_rfl) (by kernel_rfl))) ?_
  intro W base args ds gs before hval0 hW _ _ hL _
  have hval : ∀ (j : Nat) t v, Tryd.f3.params[j]? = some t → args[j]? = some v → Value.okWide Tryd.prog W .any base t v := hval0
  have hW' := hW
  obtain ⟨p, q, hA0, hV, rfl, hfz, hnd⟩ := hW
  have hA : DataW.TrodAll enc Tryd.prog W 0 (fun _ => true) true Tryd.f3.params.toList args.toList ds p := hA0
  rw [Tryd.params3] at hA hval
  obtain ⟨v0, vs0, d0, ds0, p0, q0, hargs, rfl, rfl, h0, r0⟩ := trodAll_cons hA
  obtain ⟨rfl, rfl, rfl⟩ := trodAll_nil r0
  obtain rfl : args = #[v0] := by cases args; simp_all
  obtain ⟨g, t, cs, fuel, d, p', g2, t2, cs2, fuel2, d2, p2, g3, t3, cs3, fuel3, d3, p3, rfl, hg, ht, hvar, hd, hg2, ht2, hvar2, hd2, hg3, ht3, hvar3, hd3, rfl⟩ := trodVars_three hV
  obtain ⟨a0, rfl, rfl, rfl, w0⟩ := open_string Tryd.underlying9 (hval 0 9 v0 rfl rfl) h0
  rw [MakeChecks.laidMetH_plain _ _ _ (by kernel_rfl)] at hL
  have hsp : LT W ∧ SP W ∧ NS W := all3_of_laid hL
  clear hA0 hval0
  refine (walk a0 w0 W hsp).mono fun e W' ⟨he, bel⟩ => ?_
  subst he
  have hlt1 : 0 < W.heap.size := cell_lt hsp.2.2.1
  have hlt2 : 1 < W.heap.size := cell_lt hsp.2.1.1.1
  have hlt3 : 3 < W.heap.size := block_lt hsp.1
  obtain rfl := Option.some.inj (gSteps.symm.trans hg)
  obtain rfl := Option.some.inj (tSteps.symm.trans ht)
  obtain rfl := Option.some.inj (gSigns.symm.trans hg2)
  obtain rfl := Option.some.inj (tSigns.symm.trans ht2)
  obtain rfl := Option.some.inj (gTens.symm.trans hg3)
  obtain rfl := Option.some.inj (tTens.symm.trans ht3)
  have hdx0 : DataW.trod enc Tryd.prog W 0 (fun _ => true) true fuel 91 cs.toList = some (d, p') := hd
  have hvx0 : W.var? Tryd.prog "loop.example/g00007/impl.noSteps" = some cs := hvar
  have hltx0 : ∀ x ∈ p', x.block < W.heap.size := DataW.trod_lt fuel _ _ _ hdx0
  obtain ⟨fl0, hq0⟩ := Below.trod laidOut (by kernel_rfl) (of_decide_eq_true (by kernel_rfl)) (v := .agg cs) (⟨fuel, by simpa [Value.cells] using hdx0⟩ : DataW.Trod enc Tryd.prog W 0 (fun _ => true) true 91 (.agg cs) d p') bel hltx0
  have hz0 : DataW.trod enc Tryd.prog W' 0 (fun b => decide (b < W.heap.size)) true fl0 91 cs.toList = some (d, p') := by simpa [Value.cells] using hq0
  have hdx1 : DataW.trod enc Tryd.prog W 0 (fun _ => true) true fuel2 103 cs2.toList = some (d2, p2) := hd2
  have hvx1 : W.var? Tryd.prog "loop.example/g00007/impl.signPairs" = some cs2 := hvar2
  have hltx1 : ∀ x ∈ p2, x.block < W.heap.size := DataW.trod_lt fuel2 _ _ _ hdx1
  obtain ⟨fl1, hq1⟩ := Below.trod laidOut (by kernel_rfl) (of_decide_eq_true (by kernel_rfl)) (v := .agg cs2) (⟨fuel2, by simpa [Value.cells] using hdx1⟩ : DataW.Trod enc Tryd.prog W 0 (fun _ => true) true 103 (.agg cs2) d2 p2) bel hltx1
  have hz1 : DataW.trod enc Tryd.prog W' 0 (fun b => decide (b < W.heap.size)) true fl1 103 cs2.toList = some (d2, p2) := by simpa [Value.cells] using hq1
  have hdx2 : DataW.trod enc Tryd.prog W 0 (fun _ => true) true fuel3 116 cs3.toList = some (d3, p3) := hd3
  have hvx2 : W.var? Tryd.prog "loop.example/g00007/impl.limbTens" = some cs3 := hvar3
  have hltx2 : ∀ x ∈ p3, x.block < W.heap.size := DataW.trod_lt fuel3 _ _ _ hdx2
  obtain ⟨fl2, hq2⟩ := Below.trod laidOut (by kernel_rfl) (of_decide_eq_true (by kernel_rfl)) (v := .agg cs3) (⟨fuel3, by simpa [Value.cells] using hdx2⟩ : DataW.Trod enc Tryd.prog W 0 (fun _ => true) true 116 (.agg cs3) d3 p3) bel hltx2
  have hz2 : DataW.trod enc Tryd.prog W' 0 (fun b => decide (b < W.heap.size)) true fl2 116 cs3.toList = some (d3, p3) := by simpa [Value.cells] using hq2
  have hv3 := trodVars_mk1 (enc := enc) (spare := fun b => decide (b < W.heap.size)) gTens tTens (var?_below bel gTens hlt3 hvx2) hz2
  have hv2 : DataW.TrodVars enc Tryd.prog W' (fun b => decide (b < W.heap.size)) ["loop.example/g00007/impl.signPairs", "loop.example/g00007/impl.limbTens"] [d2, d3] (MemPlace.row ⟨1, 0, none⟩ cs2.size ++ p2 ++ (MemPlace.row ⟨3, 0, none⟩ cs3.size ++ p3)) :=
    ⟨_, _, cs2, fl1, p2, _, gSigns, tSigns, var?_below bel gSigns hlt2 hvx1, hz1, hv3, rfl⟩
  have hv' : DataW.TrodVars enc Tryd.prog W' (fun b => decide (b < W.heap.size)) ["loop.example/g00007/impl.noSteps", "loop.example/g00007/impl.signPairs", "loop.example/g00007/impl.limbTens"] [d, d2, d3] (MemPlace.row ⟨0, 0, none⟩ cs.size ++ p' ++ (MemPlace.row ⟨1, 0, none⟩ cs2.size ++ p2 ++ (MemPlace.row ⟨3, 0, none⟩ cs3.size ++ p3))) :=
    ⟨_, _, cs, fl0, p', _, gSteps, tSteps, var?_below bel gSteps hlt1 hvx0, hz0, hv2, rfl⟩
  exact ⟨_, rfl, _, _, _, [], [], _, hW', trodAll_mk1 (shut_bool Tryd.underlying4 _), (trodAll_cons_mk (shut_string Tryd.underlying9 w0) trodAll_mk0), hv', bel.frame _, fun h => by cases h⟩

theorem over : Rows.fnExactIsRatRow.holds Tryd.pinned (OpenSpec.ofChange Rows.fnExactIsRatSpec) :=
  OpenClaim.holds_of_wide 3 Tryd.f3 rfl rfl rfl rfl rfl rfl rfl ⟨rfl, rfl, rfl, rfl, rfl⟩ rfl rfl rfl rfl rfl (by kernel_rfl) Tryd.func3 (by kernel_rfl)
    (of_decide_eq_true (by kernel_rfl)) (by unfold Func.isWrapper; first | (rw [if_pos (by decide +kernel)]; kernel_rfl) | (rw [if_neg (by decide +kernel)]; exact ⟨rfl, rfl⟩))
    (fun os started H enc _ => lifted os started H enc)
theorem plain (f : FuncId) (fn : Func) (hf : Tryd.pinned.checked.prog.funcNamed "loop.example/g00007/laws.FnExactIsRat" = some f) (hfn : Tryd.pinned.checked.prog.funcs[f]? = some fn) :
    false = Tryd.pinned.checked.prog.looks [] ∧ ∀ (j : Nat) t, fn.params[j]? = some t → Tryd.pinned.checked.prog.wantsStandIn t = false := by
  obtain rfl : f = 3 := Option.some.inj ((show Tryd.prog.funcNamed "loop.example/g00007/laws.FnExactIsRat" = some 3 by kernel_rfl).symm.trans hf) |>.symm
  obtain rfl : fn = Tryd.f3 := (Option.some.inj (Tryd.func3.symm.trans hfn)).symm
  refine ⟨by kernel_rfl, fun j t ht => ?_⟩
  rw [Tryd.params3] at ht
  obtain rfl : t = 9 := by simpa using Array.mem_of_getElem? ht
  exact (show Tryd.prog.wantsStandIn 9 = false by kernel_rfl)
end Go.Proofs.YtpjnglcojamfmaaDoor.fnExactIsRat
namespace Go.Proofs.YtpjnglcojamfmaaDoor
theorem fnExactIsRat_holds : Rows.FnExactIsRatCardSaid :=
  Claim7.holds_tied_plain_at .later [] _ _ _ _ fnExactIsRat.over (fun _ h => by cases h) (by kernel_rfl) (fun _ h => by cases h) fnExactIsRat_row_tie rfl ⟨rfl, rfl⟩ (by kernel_rfl) rfl fnExactIsRat.plain (by kernel_rfl)
#print axioms fnExactIsRat_holds
end Go.Proofs.YtpjnglcojamfmaaDoor

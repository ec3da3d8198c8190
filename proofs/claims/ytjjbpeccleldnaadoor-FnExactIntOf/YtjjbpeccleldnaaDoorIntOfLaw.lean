import Derived.Test.YtjjbpeccleldnaaDoorRows
import Derived.Test.YtjjbpeccleldnaaDoorCards
import Derived.Test.YtjjbpeccleldnaaDoorTie
import Derived.Test.YtjjbpeccleldnaaDoorM8
import Derived.WalkKit
import Derived.ProofKit
import Derived.OpenShut
import Derived.ShutString
import Derived.ChangeOld
import Derived.ChangeVars
import Derived.Below
import Derived.WalkSmall
import Derived.LaidMore
import Derived.Lay
import Derived.Stop.Joined
import Derived.SevenTiedAt
namespace Go.Proofs.YtjjbpeccleldnaaDoor
open Go.ChangeShapes Go.WideShapes Go.ChangeAt Go.RowKit
theorem gTens : Tryd.prog.globalNamed "loop.example/g00007/impl.limbTens" = some 2 := by kernel_rfl
theorem tTens : (Tryd.prog.globals[2]?).map (·.type) = some 97 := by kernel_rfl
def tensZ : List Int := [100000000, 10000000, 1000000, 100000, 10000, 1000, 100, 10, 1]
theorem tensZ_eq (j : Nat) (h : j < 9) : tensZ.getD j 0 = (tens j : Nat) := by
  match j, h with
  | 0, _ | 1, _ | 2, _ | 3, _ | 4, _ | 5, _ | 6, _ | 7, _ | 8, _ => rfl
/-- What the second place of a laid list gives: the table of tens. -/
theorem lt_of_laid {W : World} {n0 : String} {d0 : DataW Unit} {L : List (String × DataW Unit)} (h : laidMet Tryd.prog ((n0, d0) :: ("loop.example/g00007/impl.limbTens", Rows.laid_loop_example_g00007_impl_limbTens) :: L) W) : LT W := by
  obtain ⟨ps, ⟨g0, t0, cs0, f0, p0, q0, _, _, _, _, ⟨g, t, cs, fuel, p, q, hg, ht, hv, hd, _, _⟩, _⟩, _⟩ := h
  obtain rfl := Option.some.inj (gTens.symm.trans hg)
  obtain rfl := Option.some.inj (tTens.symm.trans ht)
  obtain ⟨xs, m, _, ex, _, hl, hel⟩ := DataW.trod_array Tryd.underlying97 hd
  have c5 : Tryd.prog.cellsOf 60 = 1 := by kernel_rfl
  intro r hr
  have hE := hel r hr
  rw [c5, Nat.mul_one, List.getElem?_eq_getElem (by omega)] at hE
  obtain ⟨z, e1, e2, _⟩ := DataW.trod_int Tryd.underlying60 hE
  have hlen : tensZ.length = 9 := rfl
  have e3 : (xs.map (·.1)) = tensZ.map fun n => .lit (.int .u32 n) := (DataW.agg.inj (Prod.mk.inj ex).1).symm
  have e4 : (xs.map (·.1))[r]? = (tensZ.map fun n => (DataW.lit (.int .u32 n) : DataW Unit))[r]? := by rw [e3]
  rw [List.getElem?_map, List.getElem?_map, List.getElem?_eq_getElem (by omega : r < xs.length), List.getElem?_eq_getElem (by omega : r < tensZ.length), e2] at e4
  have hz : z = tensZ.getD r 0 := by
    simp only [Option.map_some, Option.some.injEq, DataW.lit.injEq, Lit.int.injEq, true_and] at e4
    rw [e4, List.getD, List.getElem?_eq_getElem (by omega : r < tensZ.length)]; rfl
  rw [World.var?_cell hg hv r, ← tensZ_eq r hr, ← hz]
  have : cs.toList[r]? = some (.int .u32 z) := by
    have h0 : ((cs.toList.drop r).take 1)[0]? = some (.int .u32 z) := by rw [e1]; rfl
    simpa using h0
  simpa using this
end Go.Proofs.YtjjbpeccleldnaaDoor
namespace Go.Proofs.YtjjbpeccleldnaaDoor.fnExactIntOf
open Go.ChangeShapes Go.WideShapes Go.ChangeAt Go.RowKit
set_option linter.unusedVariables false
theorem own : ownKnob Tryd.prog.godebug = none := by kernel_rfl
theorem laidOut : laidOutB Tryd.prog = true := by kernel_rfl
set_option maxRecDepth 100000 in
set_option maxHeartbeats 1000000 in
theorem walk (n : Nat) (hn : n < 18446744073709551616) (w : World) (h : LT w) :
    Calls Tryd.prog 9 #[.int .u64 (n : Nat)] w fun e w' => e = .returned (.bool true) ∧ Below w.heap.size w w' := by
  have HS : Hid (LT w) := h
  clear h
  have HN : Hid (n < 18446744073709551616) := hn
  clear hn
  go_enter Tryd.func9, Tryd.ntmps9
  go_wp2_with fail
  refine (specOf_any n _ HN.out).mono ?_
  rintro e W1 ⟨u, hu, rfl, hb1⟩
  have HU : Hid (okL u ∧ isTrim u ∧ val u = n ∧ u.length ≤ 3) := hu
  have HB1 : Hid (Below w.heap.size w W1) := hb1
  clear hb1 hu
  go_wp2_with fail
  refine (implOf_any n _ HN.out (HS.out.below HB1.out)).mono ?_
  rintro e W2 ⟨t, ht, rfl, hb2⟩
  have e1 := of_same n t u ht HU.out
  rw [e1]
  have HB2 : Hid (Below w.heap.size w W2) := HB1.out.trans (hb2.mono HB1.out.size)
  clear hb2 ht e1
  obtain ⟨s, hs⟩ : ∃ s, fullT false u = s := ⟨_, rfl⟩
  rw [hs]
  clear hs
  go_wp2
  go_ret
  exact ⟨rfl, HB2.out⟩
set_option maxRecDepth 100000 in
theorem lifted (os : Os) (started : os.Started) (H : Type) (enc : TypeId × Value → H) :
    ReturnsInHanded {} Tryd.checked os 9 .any (fun w args => (Rows.fnExactIntOfSpec.pre enc Tryd.prog Tryd.f9 [] false w args ∧ laidMetH Tryd.prog Rows.fnExactIntOfRow.laid w) ∧ sizedMet enc Tryd.prog Tryd.f9 (OpenSpec.ofChange Rows.fnExactIntOfSpec) false w args)
      (Rows.fnExactIntOfSpec.post enc Tryd.prog Tryd.f9 false true false false) := by
  refine returnsInHanded_of_change_and (C := Tryd.checked) (X := fun w _ => laidMetH Tryd.prog Rows.fnExactIntOfRow.laid w) (fun _ _ _ hh h => h.of_heap hh) own started (by kernel_rfl) Tryd.func9
    (ChangeSpec.witness_shaped (enc := enc) (C := Tryd.checked) (os := os) (X := fun w _ => laidMetH Tryd.prog Rows.fnExactIntOfRow.laid w) false (World.laidAll Tryd.prog os Rows.fnExactIntOfRow.laid) #[.int .u64 0] 8 (World.laidAll_os _ _ _)
      (World.shaped_of_ZipB (by kernel_rfl) (by kernel_rfl)) (by kernel_rfl) (by kernel_rfl) (by kernel_rfl)
      (by rw [MakeChecks.laidMetH_plain _ _ _ (by kernel_rfl)]; exact laidMet_laidAll _ (by kernel_rfl) (by kernel_rfl))) ?_
  intro W base args ds gs before hval0 hW _ _ hL _
  have hval : ∀ (j : Nat) t v, Tryd.f9.params[j]? = some t → args[j]? = some v → Value.okWide Tryd.prog W .any base t v := hval0
  have hW' := hW
  obtain ⟨p, q, hA0, hV, rfl, hfz, hnd⟩ := hW
  have hA : DataW.TrodAll enc Tryd.prog W 0 (fun _ => true) true Tryd.f9.params.toList args.toList ds p := hA0
  rw [Tryd.params9] at hA hval
  obtain ⟨v0, vs0, d0, ds0, p0, q0, hargs, rfl, rfl, h0, r0⟩ := trodAll_cons hA
  obtain ⟨rfl, rfl, rfl⟩ := trodAll_nil r0
  obtain rfl : args = #[v0] := by cases args; simp_all
  obtain ⟨g, t, cs, fuel, d, p', rfl, hg, ht, hvar, hd, rfl⟩ := trodVars_one hV
  obtain ⟨a0, rfl, rfl, rfl, w0⟩ := open_int Tryd.underlying27 (hval 0 27 v0 rfl rfl) h0
  rw [MakeChecks.laidMetH_plain _ _ _ (by kernel_rfl)] at hL
  have hsp : LT W := lt_of_laid hL
  clear hA0 hval0
  have hbd : 0 ≤ a0 ∧ a0 < 18446744073709551616 := by
    have := bounds_u64 w0
    omega
  obtain ⟨n, hn⟩ := Int.eq_ofNat_of_zero_le hbd.1
  subst hn
  refine (walk n (by omega) W hsp).mono fun e W' ⟨he, bel⟩ => ?_
  subst he
  have hlt0 : 2 < W.heap.size := block_lt hsp
  obtain rfl := Option.some.inj (gTens.symm.trans hg)
  obtain rfl := Option.some.inj (tTens.symm.trans ht)
  have hd2 : DataW.trod enc Tryd.prog W 0 (fun _ => true) true fuel 97 cs.toList = some (d, p') := hd
  have hvar2 : W.var? Tryd.prog "loop.example/g00007/impl.limbTens" = some cs := hvar
  have hltv : ∀ x ∈ p', x.block < W.heap.size := DataW.trod_lt fuel _ _ _ hd2
  obtain ⟨fuel', hd'⟩ := Below.trod laidOut (by kernel_rfl) (of_decide_eq_true (by kernel_rfl)) (v := .agg cs) (⟨fuel, by simpa [Value.cells] using hd2⟩ : DataW.Trod enc Tryd.prog W 0 (fun _ => true) true 97 (.agg cs) d p') bel hltv
  have hd3 : DataW.trod enc Tryd.prog W' 0 (fun b => decide (b < W.heap.size)) true fuel' 97 cs.toList = some (d, p') := by simpa [Value.cells] using hd'
  have hv' := trodVars_mk1 (enc := enc) (spare := fun b => decide (b < W.heap.size)) gTens tTens (var?_below bel gTens hlt0 hvar2) hd3
  exact ⟨_, rfl, _, _, _, [], [], (MemPlace.row ⟨2, 0, none⟩ cs.size ++ p'), hW', trodAll_mk1 (shut_bool Tryd.underlying4 _), (trodAll_cons_mk (shut_int Tryd.underlying27 w0) trodAll_mk0), hv', bel.frame _, fun h => by cases h⟩

theorem over : Rows.fnExactIntOfRow.holds Tryd.pinned (OpenSpec.ofChange Rows.fnExactIntOfSpec) :=
  OpenClaim.holds_of_wide 9 Tryd.f9 rfl rfl rfl rfl rfl rfl rfl ⟨rfl, rfl, rfl, rfl, rfl⟩ rfl rfl rfl rfl rfl (by kernel_rfl) Tryd.func9 (by kernel_rfl)
    (of_decide_eq_true (by kernel_rfl)) (by unfold Func.isWrapper; first | (rw [if_pos (by decide +kernel)]; kernel_rfl) | (rw [if_neg (by decide +kernel)]; exact ⟨rfl, rfl⟩))
    (fun os started H enc _ => lifted os started H enc)
theorem plain (f : FuncId) (fn : Func) (hf : Tryd.pinned.checked.prog.funcNamed "loop.example/g00007/laws.FnExactIntOf" = some f) (hfn : Tryd.pinned.checked.prog.funcs[f]? = some fn) :
    false = Tryd.pinned.checked.prog.looks [] ∧ ∀ (j : Nat) t, fn.params[j]? = some t → Tryd.pinned.checked.prog.wantsStandIn t = false := by
  obtain rfl : f = 9 := Option.some.inj ((show Tryd.prog.funcNamed "loop.example/g00007/laws.FnExactIntOf" = some 9 by kernel_rfl).symm.trans hf) |>.symm
  obtain rfl : fn = Tryd.f9 := (Option.some.inj (Tryd.func9.symm.trans hfn)).symm
  refine ⟨by kernel_rfl, fun j t ht => ?_⟩
  rw [Tryd.params9] at ht
  obtain rfl : t = 27 := by simpa using Array.mem_of_getElem? ht
  exact (show Tryd.prog.wantsStandIn 27 = false by kernel_rfl)
end Go.Proofs.YtjjbpeccleldnaaDoor.fnExactIntOf
namespace Go.Proofs.YtjjbpeccleldnaaDoor
theorem fnExactIntOf_holds : Rows.FnExactIntOfCardSaid :=
  Claim7.holds_tied_plain_at .later [] _ _ _ _ fnExactIntOf.over (fun _ h => by cases h) (by kernel_rfl) (fun _ h => by cases h) fnExactIntOf_row_tie rfl ⟨rfl, rfl⟩ (by kernel_rfl) rfl fnExactIntOf.plain (by kernel_rfl)
#print axioms fnExactIntOf_holds
end Go.Proofs.YtjjbpeccleldnaaDoor

import Derived.Test.YtpimiboiogfhbaaGreatDoorMtJK
import Derived.Test.YtpimiboiogfhbaaGreatDoorMtDE
import Derived.Test.YtpimiboiogfhbaaGreatDoorRows
import Derived.Test.YtpimiboiogfhbaaGreatDoorCards
import Derived.Test.YtpimiboiogfhbaaGreatDoorTie
import Derived.Test.YtpimiboiogfhbaaGreatDoorU7
import Derived.Test.YtpimiboiogfhbaaGreatDoorLrAB
import Derived.WalkKit
import Derived.ProofKit
import Derived.OpenShut
import Derived.ShutString
import Derived.ChangeOld
import Derived.ChangeVars
import Derived.Below
import Derived.WalkSmall
import Derived.LaidMore
import Derived.Lay
import Derived.Stop.Joined
import Derived.SevenTiedAt
namespace Go.Proofs.YtpimiboiogfhbaaGreatDoor.L
open Go.ChangeShapes Go.WideShapes Go.ChangeAt Go.RowKit
theorem Stays.own {N : Nat} {w : World} {P : World → Prop} (h : Stays N w P) : P w := h w (Nat.le_refl _) (fun _ _ _ => rfl)
set_option maxRecDepth 100000 in
set_option maxHeartbeats 4000000 in
theorem meetsLaw (cols : Int) (v vv : Value) (F : List Lr) (L : List (List UInt8)) (w : World) (h : ArgRows w v F) (hv : ArgStrs w vv L) (hT : Tabs w) (hc1 : -9223372036854775808 ≤ cols) (hc2 : cols ≤ 9223372036854775807) :
    Calls Tryz.prog 3 #[.int .i64 cols, v, vv] w fun e w' => e = .returned (.bool true) ∧ Below w.heap.size w w' := by
  have H := hidG h
  have HV := hidG hv
  have HT := hidG hT
  obtain ⟨a, c, rfl, -⟩ := h
  obtain ⟨av, cv, rfl, -⟩ := hv
  clear hT
  go_enter Tryz.func3, Tryz.ntmps3
  go_wp2_with fail
  refine (szLinRowS_any _ F 1048576 _ H.out (Nat.le_refl _)).mono ?_
  rintro e w1 ⟨(rfl | ⟨z, hz, rfl, hsm⟩), hb1⟩
  · have HB1 := hidG hb1
    clear hb1
    go_wp2_with fail
    go_ret
    exact ⟨rfl, HB1.out⟩
  have HB1 := hidG hb1
  have HSM := hidG hsm
  have y : decide ((z : Int) < 0) = false := by rw [decide_eq_false_iff_not]; omega
  clear hb1 hsm
  go_wp2_with fail
  refine (szStringS_any _ L z _ (HV.out.below HB1.out) hz).mono ?_
  rintro e w1' ⟨(rfl | ⟨z', hz', rfl, hsv⟩), hb1'⟩
  · have HB1' : Hid (Below w.heap.size w w1') := HB1.out.trans (hb1'.mono HB1.out.size)
    clear hb1'
    go_wp2_with fail
    go_ret
    exact ⟨rfl, HB1'.out⟩
  have HB1' : Hid (Below w.heap.size w w1') := HB1.out.trans (hb1'.mono HB1.out.size)
  have HSV := hidG hsv
  have y' : decide ((z' : Int) < 0) = false := by rw [decide_eq_false_iff_not]; omega
  clear hb1' hsv
  have TOR : Hid (∀ W, Below w.heap.size w W → Calls Tryz.prog 7 #[.slice a F.length c] W (fun e w' => ∃ p c, e = .returned (.slice p F.length c) ∧ RowsAt w' (.slice p F.length c) F ∧ Below W.heap.size W w')) := fun W hW => by
    refine (toLinRowS_any _ F _ (H.out.below hW) HSM.out).mono ?_
    rintro e w' ⟨v', rfl, ⟨p, c, rfl⟩, hst, hb⟩
    exact ⟨p, c, rfl, hst.own, hb⟩
  have TOS : Hid (∀ W, Below w.heap.size w W → Calls Tryz.prog 8 #[.slice av L.length cv] W (fun e w' => ∃ p c, e = .returned (.slice p L.length c) ∧ StrsAt w' (.slice p L.length c) L ∧ Below W.heap.size W w')) := fun W hW => by
    refine (toStringS_any _ L _ (HV.out.below hW) HSV.out).mono ?_
    rintro e w' ⟨g, c, rfl, hown, hb⟩
    exact ⟨_, c, rfl, strs_at hown, hb⟩
  go_wp2_with fail
  refine (TOR.out _ HB1'.out).mono ?_
  rintro e w2 ⟨p2, c2, rfl, hr2, hb2⟩
  have HB2 : Hid (Below w.heap.size w w2) := HB1'.out.trans (hb2.mono HB1'.out.size)
  have HR2 := hidG hr2
  clear hr2 hb2
  go_wp2_with fail
  refine (TOS.out _ HB2.out).mono ?_
  rintro e w3 ⟨p3, c3, rfl, hr3, hb3⟩
  have HB3 : Hid (Below w.heap.size w w3) := HB2.out.trans (hb3.mono HB2.out.size)
  have HR3 := hidG hr3
  have HR23 := hidG (HR2.out.below hb3)
  clear hr3 hb3
  go_wp2_with fail
  refine (meets_spec cols _ _ F L w3 HR23.out HSM.out HR3.out HSV.out hc1 hc2).mono ?_
  rintro e w4 ⟨g, rfl, hM, hb4⟩
  have HB4 : Hid (Below w.heap.size w w4) := HB3.out.trans (hb4.mono HB3.out.size)
  have HM := hidG hM
  clear hb4 hM
  go_wp2_with fail
  refine (TOR.out _ HB4.out).mono ?_
  rintro e w5 ⟨p5, c5, rfl, hr5, hb5⟩
  have HB5 : Hid (Below w.heap.size w w5) := HB4.out.trans (hb5.mono HB4.out.size)
  have HR5 := hidG hr5
  clear hr5 hb5
  go_wp2_with fail
  refine (TOS.out _ HB5.out).mono ?_
  rintro e w6 ⟨p6, c6, rfl, hr6, hb6⟩
  have HB6 : Hid (Below w.heap.size w w6) := HB5.out.trans (hb6.mono HB5.out.size)
  have HR6 := hidG hr6
  have HR56 := hidG (HR5.out.below hb6)
  clear hr6 hb6
  go_wp2_with fail
  refine (meets_impl cols _ _ F L w6 HR56.out HSM.out HR6.out HSV.out (HT.out.below HB6.out) hc1 hc2).mono ?_
  rintro e w7 ⟨g', rfl, hM', hb7⟩
  obtain rfl := HM.out.eq hM'
  have HB7 : Hid (Below w.heap.size w w7) := HB6.out.trans (hb7.mono HB6.out.size)
  have HR57 := hidG (HR56.out.below hb7)
  have HR67 := hidG (HR6.out.below hb7)
  clear hb7 hM'
  have last : Calls Tryz.prog 7 #[.slice a F.length c] w7 (fun e w' => ∃ p c, e = .returned (.slice p F.length c) ∧ RowsAt w' (.slice p F.length c) F ∧ RowsAt w' (.slice p5 F.length c5) F ∧ StrsAt w' (.slice p6 L.length c6) L ∧ Below w.heap.size w w') := by
    refine (TOR.out _ HB7.out).mono ?_
    rintro e w8 ⟨p8, c8, rfl, h8, hb8⟩
    exact ⟨p8, c8, rfl, h8, HR57.out.below hb8, HR67.out.below hb8, HB7.out.trans (hb8.mono HB7.out.size)⟩
  have LAST := hidG last
  clear last
  cases g
  all_goals
   go_wp2_with fail
   refine LAST.out.mono ?_
   rintro e w8 ⟨p8, c8, rfl, hr8, hr58, hr68, hb8⟩
   have HR8 := hidG hr8
   have HR58 := hidG hr58
   have HR68 := hidG hr68
   have HB8 := hidG hb8
   clear hr8 hr58 hr68 hb8
   go_wp2_with fail
   refine (eqLinRowS_same _ _ F _ HR58.out HR8.out).mono ?_
   rintro e w9 ⟨rfl, hb9⟩
   have HB9 : Hid (Below w.heap.size w w9) := HB8.out.trans (hb9.mono HB8.out.size)
   have HR69 := hidG (HR68.out.below hb9)
   clear hb9
   go_wp2_with fail
   refine (TOS.out _ HB9.out).mono ?_
   rintro e w10 ⟨p10, c10, rfl, hr10, hb10⟩
   have HB10 : Hid (Below w.heap.size w w10) := HB9.out.trans (hb10.mono HB9.out.size)
   have HR10 := hidG hr10
   have HR610 := hidG (HR69.out.below hb10)
   clear hr10 hb10
   go_wp2_with fail
   refine (eqStringS_same _ _ L _ HR610.out HR10.out).mono ?_
   rintro e w11 ⟨rfl, hb11⟩
   have HB11 : Hid (Below w.heap.size w w11) := HB10.out.trans (hb11.mono HB10.out.size)
   clear hb11
   go_wp2_with fail
   go_ret
   exact ⟨rfl, HB11.out⟩
end Go.Proofs.YtpimiboiogfhbaaGreatDoor.L
namespace Go.Proofs.YtpimiboiogfhbaaGreatDoor.fnExactMeets
open Go.ChangeShapes Go.WideShapes Go.ChangeAt Go.RowKit
set_option linter.unusedVariables false
theorem own : ownKnob Tryz.prog.godebug = none := by kernel_rfl
theorem laidOut : laidOutB Tryz.prog = true := by kernel_rfl
theorem int_ends {n : Int} (h : (Lit.int .i64 n).wf = true) : -9223372036854775808 ≤ n ∧ n ≤ 9223372036854775807 := by
  simp [Lit.wf, IntKind.min, IntKind.max, IntKind.bits, IntKind.signed] at h
  omega
set_option maxRecDepth 100000 in
theorem lifted (os : Os) (started : os.Started) (H : Type) (enc : TypeId × Value → H) :
    ReturnsInHanded {} Tryz.checked os 3 .any (fun w args => (Rows.fnExactMeetsSpec.pre enc Tryz.prog Tryz.f3 [] false w args ∧ laidMetH Tryz.prog Rows.fnExactMeetsRow.laid w) ∧ sizedMet enc Tryz.prog Tryz.f3 (OpenSpec.ofChange Rows.fnExactMeetsSpec) false w args)
      (Rows.fnExactMeetsSpec.post enc Tryz.prog Tryz.f3 false true false false) := by
  refine returnsInHanded_of_change_and (C := Tryz.checked) (X := fun w _ => laidMetH Tryz.prog Rows.fnExactMeetsRow.laid w) (fun _ _ _ hh h => h.of_heap hh) own started (by kernel_rfl) Tryz.func3
    (ChangeSpec.witness_shaped (enc := enc) (C := Tryz.checked) (os := os) (X := fun w _ => laidMetH Tryz.prog Rows.fnExactMeetsRow.laid w) false (World.laidAll Tryz.prog os Rows.fnExactMeetsRow.laid) #[.int .i64 0, .slice none 0 0, .slice none 0 0] 8 (World.laidAll_os _ _ _)
      (World.shaped_of_ZipB (by kernel_rfl) (by kernel_rfl)) (by kernel_rfl) (by kernel_rfl) (by kernel_rfl)
      (by rw [MakeChecks.laidMetH_plain _ _ _ (by kernel_rfl)]; exact laidMet_laidAll _ (by kernel_rfl) (by kernel_rfl))) ?_
  intro W base args ds gs before hval0 hW _ _ hL _
  have hval : ∀ (j : Nat) t v, Tryz.f3.params[j]? = some t → args[j]? = some v → Value.okWide Tryz.prog W .any base t v := hval0
  have hW' := hW
  obtain ⟨p, q, hA0, hV, rfl, hfz, hnd⟩ := hW
  have hA : DataW.TrodAll enc Tryz.prog W 0 (fun _ => true) true Tryz.f3.params.toList args.toList ds p := hA0
  rw [Tryz.params3] at hA hval
  obtain ⟨v0, vs0, d0, ds0, p0, q0, hargs, rfl, rfl, h0, r0⟩ := trodAll_cons hA
  obtain ⟨v1, vs1, d1, ds1, p1, q1, rfl, rfl, rfl, h1, r1⟩ := trodAll_cons r0
  obtain ⟨vv2, vs2, dd2, ds2, pp2, q2, rfl, rfl, rfl, h2, r2⟩ := trodAll_cons r1
  obtain ⟨rfl, rfl, rfl⟩ := trodAll_nil r2
  obtain rfl : args = #[v0, v1, vv2] := by cases args; simp_all
  obtain ⟨g, t, cs, fuel, d, p', g2, t2, cs2, fuel2, d2, p2, g3, t3, cs3, fuel3, d3, p3, rfl, hg, ht, hvar, hd, hg2, ht2, hvar2, hd2, hg3, ht3, hvar3, hd3, rfl⟩ := trodVars_three hV
  obtain ⟨a0, rfl, rfl, rfl, w0⟩ := open_int Tryz.underlying3 (hval 0 3 v0 rfl rfl) h0
  obtain ⟨a1, len1, cap1, rfl⟩ := okWide_slice Tryz.underlying22 (hval 1 22 v1 rfl rfl)
  obtain ⟨a2, len2, cap2, rfl⟩ := okWide_slice Tryz.underlying23 (hval 2 23 vv2 rfl rfl)
  have k1 := h1
  have k2 := h2
  have lt1 : ∀ x ∈ p1, x.block < W.heap.size := by obtain ⟨m, hm⟩ := k1; exact DataW.trod_lt m _ _ _ hm
  have lt2 : ∀ x ∈ pp2, x.block < W.heap.size := by obtain ⟨m, hm⟩ := k2; exact DataW.trod_lt m _ _ _ hm
  obtain ⟨F, hF⟩ : ∃ F, L.ArgRows W (.slice a1 len1 cap1) F := by
    obtain ⟨fuel, hf⟩ := h1
    exact L.rows_of (by simpa [Value.cells] using hf)
  obtain ⟨S, hS⟩ : ∃ S, L.ArgStrs W (.slice a2 len2 cap2) S := by
    obtain ⟨fuel, hf⟩ := h2
    exact L.strs_of (by simpa [Value.cells] using hf)
  rw [MakeChecks.laidMetH_plain _ _ _ (by kernel_rfl)] at hL
  have hsp : LT W ∧ SP W ∧ NS W := all3_of_laid hL
  clear hA0 hval0
  refine (L.meetsLaw a0 _ _ F S W hF hS ⟨hsp.2.1, hsp.2.2, hsp.1⟩ (int_ends w0).1 (int_ends w0).2).mono fun e W' ⟨he, bel⟩ => ?_
  subst he
  have hlt1 : 1 < W.heap.size := cell_lt hsp.2.2.1
  have hlt2 : 0 < W.heap.size := cell_lt hsp.2.1.1.1
  have hlt3 : 3 < W.heap.size := block_lt hsp.1
  obtain rfl := Option.some.inj (gSteps.symm.trans hg)
  obtain rfl := Option.some.inj (tSteps.symm.trans ht)
  obtain rfl := Option.some.inj (gSigns.symm.trans hg2)
  obtain rfl := Option.some.inj (tSigns.symm.trans ht2)
  obtain rfl := Option.some.inj (gTens.symm.trans hg3)
  obtain rfl := Option.some.inj (tTens.symm.trans ht3)
  have hdx0 : DataW.trod enc Tryz.prog W 0 (fun _ => true) true fuel 129 cs.toList = some (d, p') := hd
  have hvx0 : W.var? Tryz.prog "loop.example/g00007/impl.noSteps" = some cs := hvar
  have hltx0 : ∀ x ∈ p', x.block < W.heap.size := DataW.trod_lt fuel _ _ _ hdx0
  obtain ⟨fl0, hq0⟩ := Below.trod laidOut (by kernel_rfl) (of_decide_eq_true (by kernel_rfl)) (v := .agg cs) (⟨fuel, by simpa [Value.cells] using hdx0⟩ : DataW.Trod enc Tryz.prog W 0 (fun _ => true) true 129 (.agg cs) d p') bel hltx0
  have hz0 : DataW.trod enc Tryz.prog W' 0 (fun b => decide (b < W.heap.size)) true fl0 129 cs.toList = some (d, p') := by simpa [Value.cells] using hq0
  have hdx1 : DataW.trod enc Tryz.prog W 0 (fun _ => true) true fuel2 118 cs2.toList = some (d2, p2) := hd2
  have hvx1 : W.var? Tryz.prog "loop.example/g00007/impl.signPairs" = some cs2 := hvar2
  have hltx1 : ∀ x ∈ p2, x.block < W.heap.size := DataW.trod_lt fuel2 _ _ _ hdx1
  obtain ⟨fl1, hq1⟩ := Below.trod laidOut (by kernel_rfl) (of_decide_eq_true (by kernel_rfl)) (v := .agg cs2) (⟨fuel2, by simpa [Value.cells] using hdx1⟩ : DataW.Trod enc Tryz.prog W 0 (fun _ => true) true 118 (.agg cs2) d2 p2) bel hltx1
  have hz1 : DataW.trod enc Tryz.prog W' 0 (fun b => decide (b < W.heap.size)) true fl1 118 cs2.toList = some (d2, p2) := by simpa [Value.cells] using hq1
  have hdx2 : DataW.trod enc Tryz.prog W 0 (fun _ => true) true fuel3 148 cs3.toList = some (d3, p3) := hd3
  have hvx2 : W.var? Tryz.prog "loop.example/g00007/impl.limbTens" = some cs3 := hvar3
  have hltx2 : ∀ x ∈ p3, x.block < W.heap.size := DataW.trod_lt fuel3 _ _ _ hdx2
  obtain ⟨fl2, hq2⟩ := Below.trod laidOut (by kernel_rfl) (of_decide_eq_true (by kernel_rfl)) (v := .agg cs3) (⟨fuel3, by simpa [Value.cells] using hdx2⟩ : DataW.Trod enc Tryz.prog W 0 (fun _ => true) true 148 (.agg cs3) d3 p3) bel hltx2
  have hz2 : DataW.trod enc Tryz.prog W' 0 (fun b => decide (b < W.heap.size)) true fl2 148 cs3.toList = some (d3, p3) := by simpa [Value.cells] using hq2
  have hv3 := trodVars_mk1 (enc := enc) (spare := fun b => decide (b < W.heap.size)) gTens tTens (var?_below bel gTens hlt3 hvx2) hz2
  have hv2 : DataW.TrodVars enc Tryz.prog W' (fun b => decide (b < W.heap.size)) ["loop.example/g00007/impl.signPairs", "loop.example/g00007/impl.limbTens"] [d2, d3] (MemPlace.row ⟨0, 0, none⟩ cs2.size ++ p2 ++ (MemPlace.row ⟨3, 0, none⟩ cs3.size ++ p3)) :=
    ⟨_, _, cs2, fl1, p2, _, gSigns, tSigns, var?_below bel gSigns hlt2 hvx1, hz1, hv3, rfl⟩
  have hv' : DataW.TrodVars enc Tryz.prog W' (fun b => decide (b < W.heap.size)) ["loop.example/g00007/impl.noSteps", "loop.example/g00007/impl.signPairs", "loop.example/g00007/impl.limbTens"] [d, d2, d3] (MemPlace.row ⟨1, 0, none⟩ cs.size ++ p' ++ (MemPlace.row ⟨0, 0, none⟩ cs2.size ++ p2 ++ (MemPlace.row ⟨3, 0, none⟩ cs3.size ++ p3))) :=
    ⟨_, _, cs, fl0, p', _, gSteps, tSteps, var?_below bel gSteps hlt1 hvx0, hz0, hv2, rfl⟩
  exact ⟨_, rfl, _, _, _, [], _, _, hW', trodAll_mk1 (shut_bool Tryz.underlying4 _), (trodAll_cons_mk (shut_int Tryz.underlying3 w0) (trodAll_cons_mk (Below.trod laidOut (by kernel_rfl) (of_decide_eq_true (by kernel_rfl)) k1 bel lt1) (trodAll_cons_mk (Below.trod laidOut (by kernel_rfl) (of_decide_eq_true (by kernel_rfl)) k2 bel lt2) trodAll_mk0))), hv', bel.frame _, fun h => by cases h⟩

theorem over : Rows.fnExactMeetsRow.holds Tryz.pinned (OpenSpec.ofChange Rows.fnExactMeetsSpec) :=
  OpenClaim.holds_of_wide 3 Tryz.f3 rfl rfl rfl rfl rfl rfl rfl ⟨rfl, rfl, rfl, rfl, rfl⟩ rfl rfl rfl rfl rfl (by kernel_rfl) Tryz.func3 (by kernel_rfl)
    (of_decide_eq_true (by kernel_rfl)) (by unfold Func.isWrapper; first | (rw [if_pos (by decide +kernel)]; kernel_rfl) | (rw [if_neg (by decide +kernel)]; exact ⟨rfl, rfl⟩))
    (fun os started H enc _ => lifted os started H enc)
theorem plain (f : FuncId) (fn : Func) (hf : Tryz.pinned.checked.prog.funcNamed "loop.example/g00007/laws.FnExactMeets" = some f) (hfn : Tryz.pinned.checked.prog.funcs[f]? = some fn) :
    false = Tryz.pinned.checked.prog.looks [] ∧ ∀ (j : Nat) t, fn.params[j]? = some t → Tryz.pinned.checked.prog.wantsStandIn t = false := by
  obtain rfl : f = 3 := Option.some.inj ((show Tryz.prog.funcNamed "loop.example/g00007/laws.FnExactMeets" = some 3 by kernel_rfl).symm.trans hf) |>.symm
  obtain rfl : fn = Tryz.f3 := (Option.some.inj (Tryz.func3.symm.trans hfn)).symm
  refine ⟨by kernel_rfl, fun j t ht => ?_⟩
  rw [Tryz.params3] at ht
  have hm := Array.mem_of_getElem? ht
  simp only [List.mem_toArray, List.mem_cons, List.not_mem_nil, or_false] at hm
  rcases hm with rfl | rfl | rfl
  · exact (show Tryz.prog.wantsStandIn 3 = false by kernel_rfl)
  · exact (show Tryz.prog.wantsStandIn 22 = false by kernel_rfl)
  · exact (show Tryz.prog.wantsStandIn 23 = false by kernel_rfl)
end Go.Proofs.YtpimiboiogfhbaaGreatDoor.fnExactMeets
namespace Go.Proofs.YtpimiboiogfhbaaGreatDoor
theorem fnExactMeets_holds : Rows.FnExactMeetsCardSaid :=
  Claim7.holds_tied_plain_at .later [] _ _ _ _ fnExactMeets.over (fun _ h => by cases h) (by kernel_rfl) (fun _ h => by cases h) fnExactMeets_row_tie rfl ⟨rfl, rfl⟩ (by kernel_rfl) rfl fnExactMeets.plain (by kernel_rfl)
#print axioms fnExactMeets_holds
end Go.Proofs.YtpimiboiogfhbaaGreatDoor

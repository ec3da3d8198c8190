import Derived.Test.YtdphpfffofeklaaDoorPtV
import Derived.Test.YtdphpfffofeklaaDoorPtL
import Derived.Test.YtdphpfffofeklaaDoorLrF
import Derived.WalkSmall
import Derived.ChangeVars
import Derived.LaidMore
import Derived.Stop.LaidErr
namespace Go.Proofs.YtdphpfffofeklaaDoor.L
open Go.ChangeShapes Go.WideShapes Go.ChangeAt Go.RowKit
set_option maxRecDepth 100000 in
theorem tnode_of {H : Type} {enc : TypeId × Value → H} {W : World} {cs : List Value} {fuel : Nat} {x : DataW H × List MemPlace}
    (h : DataW.trod enc Tryd.prog W 0 (fun _ => true) true fuel 79 cs = some x) : ∃ (f : Tn) (va : Value), cs = [.int .i64 f.col, .string (strOf f.pl), va] ∧ ArgStrs W va f.mu ∧ f.pl.length ≤ maxLen ∧ -9223372036854775808 ≤ f.col ∧ f.col ≤ 9223372036854775807 := by
  obtain ⟨xs, k, _, _, hlen, hxl, hf⟩ := DataW.trod_struct Tryd.underlying79 h
  have c3 : Tryd.prog.cellsOf 79 = 3 := by kernel_rfl
  have c9 : Tryd.prog.cellsOf 9 = 1 := by kernel_rfl
  have c4 : Tryd.prog.cellsOf 3 = 1 := by kernel_rfl
  have cs9 : Tryd.prog.cellsOf 63 = 1 := by kernel_rfl
  rw [c3] at hlen
  obtain ⟨v0, v1, v2, rfl⟩ := three_of hlen
  have hxl3 : xs.length = 3 := hxl
  have f0 : DataW.trod enc Tryd.prog W 0 (fun _ => true) true k 3 (List.take (Tryd.prog.cellsOf 3) (List.drop 0 [v0, v1, v2])) = xs[0]? := hf 0 _ rfl
  have f1 : DataW.trod enc Tryd.prog W 0 (fun _ => true) true k 9 (List.take (Tryd.prog.cellsOf 9) (List.drop 1 [v0, v1, v2])) = xs[1]? := hf 1 _ rfl
  have f2 : DataW.trod enc Tryd.prog W 0 (fun _ => true) true k 63 (List.take (Tryd.prog.cellsOf 63) (List.drop 2 [v0, v1, v2])) = xs[2]? := hf 2 _ rfl
  rw [c4, List.getElem?_eq_getElem (by omega)] at f0
  rw [c9, List.getElem?_eq_getElem (by omega)] at f1
  rw [cs9, List.getElem?_eq_getElem (by omega)] at f2
  obtain ⟨n0, e0, _, w0⟩ := DataW.trod_int Tryd.underlying3 f0
  obtain ⟨s1, e1, _, w1⟩ := DataW.trod_string Tryd.underlying9 f1
  obtain ⟨L, hL⟩ := strs_of (v := v2) (by simpa using f2)
  simp at e0 e1
  subst e0 e1
  have hw : -9223372036854775808 ≤ n0 ∧ n0 ≤ 9223372036854775807 := by
    simp [Lit.wf, IntKind.min, IntKind.max, IntKind.bits, IntKind.signed] at w0
    omega
  exact ⟨⟨n0, s1.data.toList, L⟩, v2, by rw [strOf_data], hL, Nat.le_trans (Nat.le_of_eq Array.length_toList) w1, hw.1, hw.2⟩
set_option maxRecDepth 100000 in
theorem tree_of {H : Type} {enc : TypeId × Value → H} {W : World} {v : Value} {fuel : Nat} {x : DataW H × List MemPlace}
    (h : DataW.trod enc Tryd.prog W 0 (fun _ => true) true fuel 31 [v] = some x) : ∃ F, ArgTree W v F := by
  rcases Go.Deep.open_slice Tryd.underlying31 h with ⟨hcs, _⟩ | ⟨A, l, c, m, n, D, Pl, hcs, _, hl, hm, hmm, _, hx⟩
  · simp only [List.cons.injEq, and_true] at hcs
    subst hcs
    exact ⟨[], _, _, rfl, Nat.zero_le _, Nat.zero_le _, fun s hs => (by cases hs), .inl rfl⟩
  · simp only [List.cons.injEq, and_true] at hcs
    subst hcs
    have hce : Tryd.prog.cellsOf 79 = 3 := by kernel_rfl
    simp only [if_true] at hmm
    rw [hce] at hx
    have each : ∀ i, i < l → ∃ f : Tn, (W.cell? ((A.add (i * 3)).add 0) = some (.int .i64 f.col) ∧ W.cell? ((A.add (i * 3)).add 1) = some (.string (strOf f.pl)) ∧ (∃ va, W.cell? ((A.add (i * 3)).add 2) = some va ∧ ArgStrs W va f.mu)) ∧ f.pl.length ≤ maxLen ∧ -9223372036854775808 ≤ f.col ∧ f.col ≤ 9223372036854775807 := by
      intro i hi
      obtain ⟨cs, h1, h2⟩ := hx i (by omega)
      obtain ⟨_, _, hcell⟩ := World.cells?_some h1
      obtain ⟨f, va, rfl, hva, hs⟩ := tnode_of h2
      exact ⟨f, ⟨hcell 0 (by decide), hcell 1 (by decide), va, hcell 2 (by decide), hva⟩, hs⟩
    obtain ⟨L, hL, hq⟩ := list_of l each
    subst hL
    refine ⟨L, _, _, rfl, by omega, hm, fun s hs => ?_, ?_⟩
    · obtain ⟨j, hj, rfl⟩ := List.getElem_of_mem hs
      exact (hq j hj).2
    · by_cases h0 : L = []
      · exact .inl h0
      right
      have hpos : 0 < L.length := List.length_pos_iff.2 h0
      obtain ⟨b, off, spot⟩ := A
      have hc0 := (hq 0 hpos).1.1
      have hspot : spot = none := by simpa [Addr.add] using World.cell?_spot hc0
      subst hspot
      refine ⟨b, off, rfl, ?_, fun i hi => ?_⟩
      · have := World.block_lt_of_cell? W _ hc0
        simpa [Addr.add] using this
      · obtain ⟨⟨k0, k1, va, k2, hva⟩, _⟩ := hq i hi
        simp only [add0] at k0 k1 k2
        exact ⟨k0, k1, va, k2, hva⟩
end Go.Proofs.YtdphpfffofeklaaDoor.L
namespace Go.Proofs.YtdphpfffofeklaaDoor.P
open Go.ChangeShapes Go.WideShapes Go.ChangeAt Go.RowKit
open L (strOf strOf_toList strOf_size Tn hidG below_alloc ArgTree SmallT SmallS list_of add0 tree_of)
theorem mem_sum {α : Type} (g : α → Nat) {l : List α} {x : α} (h : x ∈ l) : g x ≤ (l.map g).sum := le_sum (List.mem_map.2 ⟨x, h, rfl⟩)
theorem small_of {f : Lm} (h : wtL f ≤ 1048576) : SmallL f := by
  unfold wtL wtTs at h
  refine ⟨by omega, by omega, by omega, fun t ht => ?_⟩
  have h1 := mem_sum wtT ht
  have h2 : wtT t ≤ 1048576 := by omega
  unfold wtT wtS at h2
  refine ⟨⟨by omega, fun s hs => ?_⟩, by omega⟩
  have := mem_sum List.length hs
  omega
theorem lmB_of {w : World} {v : Value} {F : List Lm} (h : ArgLems w v F) (hw : wtLs F ≤ 1048576) : ∀ f ∈ F, LmB f := by
  obtain ⟨a, c, rfl, -, -, hk, hA⟩ := h
  intro f hf
  rcases hA with rfl | ⟨b, off, rfl, -, hA⟩
  · cases hf
  · obtain ⟨i, hi, rfl⟩ := List.getElem_of_mem hf
    obtain ⟨-, va, vb, vc, -, -, -, h1, h2, h3⟩ := hA i hi
    obtain ⟨-, -, -, -, -, r1, -⟩ := h1
    obtain ⟨-, -, -, -, -, r2, -⟩ := h2
    obtain ⟨-, -, -, -, -, r3, -⟩ := h3
    refine ⟨hk _ hf, r1, r2, fun t ht => (r3 t ht).2, ?_⟩
    have := mem_sum wtL hf
    unfold wtLs at hw
    omega
set_option maxRecDepth 100000 in
set_option maxHeartbeats 8000000 in
theorem proofTextLaw (v : Value) (F : List Lm) (w : World) (h : ArgLems w v F) (ht : Tb w) :
    Calls Tryd.prog 3 #[v] w fun e w' => e = .returned (.bool true) ∧ Below w.heap.size w w' := by
  have H := hidG h
  have HT := hidG ht
  obtain ⟨a, c, rfl, -, -, -, -⟩ := h
  clear ht
  go_enter Tryd.func3, Tryd.ntmps3
  go_wp2_with fail
  refine (szLemmaS_w _ F 1048576 _ H.out (Nat.le_refl _)).mono ?_
  rintro e w2 ⟨(rfl | ⟨z, hz, rfl⟩), hb2⟩
  · have HB2 := hidG hb2
    clear hb2
    go_wp2_with fail
    go_ret
    exact ⟨rfl, HB2.out⟩
  have HB2 := hidG hb2
  have hw : wtLs F ≤ 1048576 := by omega
  have HLB := hidG (lmB_of H.out hw)
  have hFl : F.length ≤ 1048576 := by unfold wtLs at hw; omega
  have HSM : Hid (F.length ≤ 1048576 ∧ ∀ f ∈ F, SmallL f) := ⟨hFl, fun f hf => small_of (HLB.out f hf).2.2.2.2⟩
  have y : decide ((z : Int) < 0) = false := by rw [decide_eq_false_iff_not]; omega
  clear hb2 hz hw
  go_wp2_with fail
  refine (toLemmaS_any _ F w2 (H.out.below HB2.out) HSM.out).mono ?_
  rintro e w3 ⟨v3, rfl, ⟨p3, c3, rfl⟩, hl3, hb3⟩
  have HL3 := hidG hl3
  have HB3 : Hid (Below w.heap.size w w3) := HB2.out.trans (hb3.mono HB2.out.size)
  clear hl3 hb3
  go_wp2_with fail
  refine (proofText_spec _ F w3 HL3.out HLB.out hFl).mono ?_
  rintro e w4 ⟨rfl, hb4⟩
  have HB4 : Hid (Below w.heap.size w w4) := HB3.out.trans (hb4.mono HB3.out.size)
  obtain ⟨s, hs⟩ : ∃ s, strOf (proofT F) = s := ⟨_, rfl⟩
  rw [hs]
  have HS := hidG hs
  clear hb4 hs
  go_wp2_with fail
  refine (toLemmaS_any _ F w4 (H.out.below HB4.out) HSM.out).mono ?_
  rintro e w5 ⟨v5, rfl, ⟨p5, c5, rfl⟩, hl5, hb5⟩
  have HL5 := hidG hl5
  have HB5 : Hid (Below w.heap.size w w5) := HB4.out.trans (hb5.mono HB4.out.size)
  clear hl5 hb5
  go_wp2_with fail
  refine (proofText_impl _ F w5 HL5.out HLB.out hFl (HT.out.below HB5.out)).mono ?_
  rintro e w6 ⟨rfl, hb6⟩
  have HB6 : Hid (Below w.heap.size w w6) := HB5.out.trans (hb6.mono HB5.out.size)
  have HL6 := hidG (HL5.out.below hb6)
  rw [HS.out]
  clear hb6
  go_wp2_with fail
  refine (toLemmaS_any _ F w6 (H.out.below HB6.out) HSM.out).mono ?_
  rintro e w7 ⟨v7, rfl, ⟨p7, c7, rfl⟩, hl7, hb7⟩
  have HL7 := hidG hl7
  have HL67 := hidG (HL6.out.below hb7)
  have HB7 : Hid (Below w.heap.size w w7) := HB6.out.trans (hb7.mono HB6.out.size)
  clear hl7 hb7
  go_wp2_with fail
  refine (eqLemmaS_same _ _ F w7 HL67.out HL7.out).mono ?_
  rintro e w8 ⟨rfl, hb8⟩
  have HB8 : Hid (Below w.heap.size w w8) := HB7.out.trans (hb8.mono HB7.out.size)
  clear hb8
  go_wp2_with fail
  go_ret
  exact ⟨rfl, HB8.out⟩
set_option maxRecDepth 100000 in
theorem ints_of {H : Type} {enc : TypeId × Value → H} {W : World} {v : Value} {fuel : Nat} {x : DataW H × List MemPlace}
    (h : DataW.trod enc Tryd.prog W 0 (fun _ => true) true fuel 30 [v] = some x) : ∃ L, ArgInts W v L := by
  rcases Go.Deep.open_slice Tryd.underlying30 h with ⟨hcs, _⟩ | ⟨A, l, c, m, n, D, Pl, hcs, _, hl, hm, hmm, _, hx⟩
  · simp only [List.cons.injEq, and_true] at hcs
    subst hcs
    exact ⟨[], _, _, rfl, Nat.zero_le _, Nat.zero_le _, fun s hs => (by cases hs), .inl rfl⟩
  · simp only [List.cons.injEq, and_true] at hcs
    subst hcs
    have hce : Tryd.prog.cellsOf 3 = 1 := by kernel_rfl
    simp only [if_true] at hmm
    rw [hce] at hx
    have each : ∀ i, i < l → ∃ s : Int, W.cell? (A.add i) = some (.int .i64 s) ∧ r64 s := by
      intro i hi
      obtain ⟨cs, h1, h2⟩ := hx i (by omega)
      obtain ⟨_, hlen, hcell⟩ := World.cells?_some h1
      obtain ⟨s, e, _, w0⟩ := DataW.trod_int Tryd.underlying3 h2
      subst e
      have hc0 := hcell 0 (by decide)
      refine ⟨s, by simpa [Addr.add] using hc0, ?_⟩
      simp [Lit.wf, IntKind.min, IntKind.max, IntKind.bits, IntKind.signed] at w0
      unfold r64
      omega
    obtain ⟨L, hL, hq⟩ := list_of l each
    subst hL
    refine ⟨L, _, _, rfl, by omega, hm, fun s hs => ?_, ?_⟩
    · obtain ⟨j, hj, rfl⟩ := List.getElem_of_mem hs
      exact (hq j hj).2
    · by_cases h0 : L = []
      · exact .inl h0
      right
      have hpos : 0 < L.length := List.length_pos_iff.2 h0
      obtain ⟨b, off, spot⟩ := A
      have hc0 := (hq 0 hpos).1
      have hspot : spot = none := by simpa [Addr.add] using World.cell?_spot hc0
      subst hspot
      refine ⟨b, off, rfl, ?_, fun i hi => ?_⟩
      · have := World.block_lt_of_cell? W _ hc0
        simpa [Addr.add] using this
      · have := (hq i hi).1
        rwa [add0] at this
theorem four_of {cs : List Value} (h : cs.length = 4) : ∃ v0 v1 v2 v3, cs = [v0, v1, v2, v3] := by
  match cs, h with
  | [a, b, c, d], _ => exact ⟨a, b, c, d, rfl⟩
set_option maxRecDepth 100000 in
theorem lemma_of {H : Type} {enc : TypeId × Value → H} {W : World} {cs : List Value} {fuel : Nat} {x : DataW H × List MemPlace}
    (h : DataW.trod enc Tryd.prog W 0 (fun _ => true) true fuel 33 cs = some x) : ∃ (f : Lm) (va vb vc : Value), cs = [.int .i64 f.kind, va, vb, vc] ∧ ArgInts W va f.lits ∧ ArgInts W vb f.chain ∧ ArgTree W vc f.tree ∧ r64 f.kind := by
  obtain ⟨xs, k, _, _, hlen, hxl, hf⟩ := DataW.trod_struct Tryd.underlying33 h
  have c3 : Tryd.prog.cellsOf 33 = 4 := by kernel_rfl
  have c4 : Tryd.prog.cellsOf 3 = 1 := by kernel_rfl
  have c5 : Tryd.prog.cellsOf 30 = 1 := by kernel_rfl
  have c6 : Tryd.prog.cellsOf 31 = 1 := by kernel_rfl
  rw [c3] at hlen
  obtain ⟨v0, v1, v2, v3, rfl⟩ := four_of hlen
  have hxl3 : xs.length = 4 := hxl
  have f0 : DataW.trod enc Tryd.prog W 0 (fun _ => true) true k 3 (List.take (Tryd.prog.cellsOf 3) (List.drop 0 [v0, v1, v2, v3])) = xs[0]? := hf 0 _ rfl
  have f1 : DataW.trod enc Tryd.prog W 0 (fun _ => true) true k 30 (List.take (Tryd.prog.cellsOf 30) (List.drop 1 [v0, v1, v2, v3])) = xs[1]? := hf 1 _ rfl
  have f2 : DataW.trod enc Tryd.prog W 0 (fun _ => true) true k 30 (List.take (Tryd.prog.cellsOf 30) (List.drop 2 [v0, v1, v2, v3])) = xs[2]? := hf 2 _ rfl
  have f3 : DataW.trod enc Tryd.prog W 0 (fun _ => true) true k 31 (List.take (Tryd.prog.cellsOf 31) (List.drop 3 [v0, v1, v2, v3])) = xs[3]? := hf 3 _ rfl
  rw [c4, List.getElem?_eq_getElem (by omega)] at f0
  rw [c5, List.getElem?_eq_getElem (by omega)] at f1 f2
  rw [c6, List.getElem?_eq_getElem (by omega)] at f3
  obtain ⟨n0, e0, _, w0⟩ := DataW.trod_int Tryd.underlying3 f0
  obtain ⟨L1, hL1⟩ := ints_of (v := v1) (by simpa using f1)
  obtain ⟨L2, hL2⟩ := ints_of (v := v2) (by simpa using f2)
  obtain ⟨L3, hL3⟩ := tree_of (v := v3) (by simpa using f3)
  simp at e0
  subst e0
  have hw : r64 n0 := by
    simp [Lit.wf, IntKind.min, IntKind.max, IntKind.bits, IntKind.signed] at w0
    unfold r64
    omega
  exact ⟨⟨n0, L1, L2, L3⟩, v1, v2, v3, rfl, hL1, hL2, hL3, hw⟩
set_option maxRecDepth 100000 in
theorem lemmas_of {H : Type} {enc : TypeId × Value → H} {W : World} {v : Value} {fuel : Nat} {x : DataW H × List MemPlace}
    (h : DataW.trod enc Tryd.prog W 0 (fun _ => true) true fuel 22 [v] = some x) : ∃ F, ArgLems W v F := by
  rcases Go.Deep.open_slice Tryd.underlying22 h with ⟨hcs, _⟩ | ⟨A, l, c, m, n, D, Pl, hcs, _, hl, hm, hmm, _, hx⟩
  · simp only [List.cons.injEq, and_true] at hcs
    subst hcs
    exact ⟨[], _, _, rfl, Nat.zero_le _, Nat.zero_le _, fun s hs => (by cases hs), .inl rfl⟩
  · simp only [List.cons.injEq, and_true] at hcs
    subst hcs
    have hce : Tryd.prog.cellsOf 33 = 4 := by kernel_rfl
    simp only [if_true] at hmm
    rw [hce] at hx
    have each : ∀ i, i < l → ∃ f : Lm, (W.cell? ((A.add (i * 4)).add 0) = some (.int .i64 f.kind) ∧ ∃ va vb vc, W.cell? ((A.add (i * 4)).add 1) = some va ∧ W.cell? ((A.add (i * 4)).add 2) = some vb ∧ W.cell? ((A.add (i * 4)).add 3) = some vc ∧ ArgInts W va f.lits ∧ ArgInts W vb f.chain ∧ ArgTree W vc f.tree) ∧ r64 f.kind := by
      intro i hi
      obtain ⟨cs, h1, h2⟩ := hx i (by omega)
      obtain ⟨_, _, hcell⟩ := World.cells?_some h1
      obtain ⟨f, va, vb, vc, rfl, hva, hvb, hvc, hs⟩ := lemma_of h2
      exact ⟨f, ⟨hcell 0 (by decide), va, vb, vc, hcell 1 (by decide), hcell 2 (by decide), hcell 3 (by decide), hva, hvb, hvc⟩, hs⟩
    obtain ⟨L, hL, hq⟩ := list_of l each
    subst hL
    refine ⟨L, _, _, rfl, by omega, hm, fun s hs => ?_, ?_⟩
    · obtain ⟨j, hj, rfl⟩ := List.getElem_of_mem hs
      exact (hq j hj).2
    · by_cases h0 : L = []
      · exact .inl h0
      right
      have hpos : 0 < L.length := List.length_pos_iff.2 h0
      obtain ⟨b, off, spot⟩ := A
      have hc0 := (hq 0 hpos).1.1
      have hspot : spot = none := by simpa [Addr.add] using World.cell?_spot hc0
      subst hspot
      refine ⟨b, off, rfl, ?_, fun i hi => ?_⟩
      · have := World.block_lt_of_cell? W _ hc0
        simpa [Addr.add] using this
      · obtain ⟨⟨k0, va, vb, vc, k1, k2, k3, hva, hvb, hvc⟩, _⟩ := hq i hi
        simp only [add0] at k0 k1 k2 k3
        exact ⟨k0, va, vb, vc, k1, k2, k3, hva, hvb, hvc⟩
def okVar (P : Program) (n : String) : Bool := match P.globalNamed n with
  | none => false
  | some g => match (P.globals[g]?).map (·.type) with
    | none => false
    | some t => P.readableRec t && decide (t < P.types.size)
/-- The variables read as they did. -/
theorem trodVars_below {H : Type} {enc : TypeId × Value → H} {P : Program} {W W' : World} (hl : laidOutB P = true) (hb : Below W.heap.size W W') : ∀ {ns : List String} {gs : List (DataW H)} {ps : List MemPlace}, ns.all (okVar P) = true → DataW.TrodVars enc P W (fun _ => true) ns gs ps → DataW.TrodVars enc P W' (fun b => decide (b < W.heap.size)) ns gs ps
  | [], gs, ps, _, h => by
    cases gs with
    | nil => exact h
    | cons d ds => simp [DataW.TrodVars] at h
  | n :: ns, gs, ps, hok, h => by
    cases gs with
    | nil => simp [DataW.TrodVars] at h
    | cons d ds =>
      simp only [List.all_cons, Bool.and_eq_true] at hok
      obtain ⟨g, t, cs, fuel, p, q, hg, ht, hv, hd, hs, e⟩ := h
      have hlt : g < W.heap.size := by
        have hv' := hv
        simp only [World.var?, hg, Option.bind_some] at hv'
        cases hh : W.heap[g]? with
        | none => rw [hh] at hv'; simp at hv'
        | some o => exact (Array.getElem?_eq_some_iff.1 hh).1
      have h1 := hok.1
      unfold okVar at h1
      rw [hg] at h1
      simp only [ht, Bool.and_eq_true, decide_eq_true_eq] at h1
      have hpl : ∀ x ∈ p, x.block < W.heap.size := DataW.trod_lt fuel _ _ _ hd
      obtain ⟨fl, hq⟩ := Below.trod hl h1.1 h1.2 (v := .agg cs) (⟨fuel, by simpa [Value.cells] using hd⟩ : DataW.Trod enc P W 0 (fun _ => true) true t (.agg cs) d p) hb hpl
      exact ⟨g, t, cs, fl, p, q, hg, ht, var?_below hb hg hlt hv, by simpa [Value.cells] using hq, trodVars_below hl hb hok.2 hs, e⟩
theorem tb_of {W : World} {x0 x1 : String × DataW Unit} (h : laidMet Tryd.prog [x0, x1, ("internal/strconv.uint64pow10", Rows.laid_internal_strconv_uint64pow10)] W) : Tb W :=
  Lib.tabIs_of_head (g := 0) (by kernel_rfl) (t := (Tryd.prog.globals[0]?.map (·.type)).getD 0) (by kernel_rfl) (n := 20) (e := 98) (by kernel_rfl) Tryd.underlying98 (by kernel_rfl) (by kernel_rfl) h.tail.tail
end Go.Proofs.YtdphpfffofeklaaDoor.P

import Derived.Test.YtdphpfffofeklaaDoorPtT
import Derived.Test.YtdphpfffofeklaaDoorPtU
namespace Go.Proofs.YtdphpfffofeklaaDoor.P
open Go.ChangeShapes Go.WideShapes Go.ChangeAt Go.RowKit
open T (Nd rowS fitF)
open L (strOf strOf_toList strOf_size Tn hidG below_alloc Bx bx_new StrsAt TreeAt strsC strs_at row_below own_lower own_other' own_base up_alloc)
set_option maxRecDepth 100000 in
set_option maxHeartbeats 4000000 in
theorem l3Write_nil (w : World) : Calls Tryd.prog 11 #[.slice none 0 0] w fun e w' => e = .returned (.string (strOf [])) ∧ Below w.heap.size w w' := by
  go_enter Tryd.func11, Tryd.ntmps11
  go_wp2_with fail
  go_loopw [3, 9] (fun vo iv wr => vo = .slice none 0 0 ∧ iv = .int .i64 0 ∧ Below w.heap.size w wr) (fun _ _ _ => 0)
  case atStart => exact ⟨rfl, rfl, Below.refl _ _⟩
  case round =>
    obtain ⟨rfl, rfl, hB⟩ := hrel
    have HB := hidG hB
    clear hB
    have hcv : (convert 45 9 (.slice none 0 0)).run Tryd.prog wr = .ok (.string (strOf [])) wr := by
      show (convert 45 9 (.slice none 0 0)).run Tryd.prog wr = .ok (.string ⟨#[]⟩) wr
      kernel_rfl
    go_wp2_with fail
    go_ret
    exact ⟨rfl, HB.out⟩
theorem cellsN_at : ∀ (ns : List Nd) (i d : Nat) (h : i < ns.length) (_ : d < 4), (cellsN ns)[i * 4 + d]? = (nodeC ns[i])[d]?
  | [], i, d, h, _ => by simp at h
  | x :: r, 0, d, _, hd => by
    show (nodeC x ++ cellsN r)[0 * 4 + d]? = _
    rw [List.getElem?_append_left (by simp [nodeC]; omega), Nat.zero_mul, Nat.zero_add]; rfl
  | x :: r, i + 1, d, h, hd => by
    show (nodeC x ++ cellsN r)[(i + 1) * 4 + d]? = _
    rw [List.getElem?_append_right (by simp [nodeC]; omega)]
    have : (i + 1) * 4 + d - (nodeC x).length = i * 4 + d := by simp [nodeC]; omega
    rw [this, cellsN_at r i d (by simpa using h) hd]; rfl
/-- What the writer's nodes are written as. -/
theorem l3Write_any (kb : Nat) (ns : List Nd) (v : Value) (w : World) (ho : w.ownsRow (kb + 1) 67 4 v ns.length (cellsN ns)) (hl : ns.length ≤ 20000) (hk : Kd ns) (ht : tsz ns ≤ 20000) (hf : fitF ns 0 [] = true) :
    Calls Tryd.prog 11 #[v] w fun e w' => e = .returned (.string (strOf (rowS ns [] true))) ∧ Below w.heap.size w w' := by
  rcases ho.2 with ⟨rfl, h0⟩ | ⟨g, cap, cur, rfl, hg, hh, hn, hc, -⟩
  · have : ns = [] := List.length_eq_zero_iff.1 h0
    subst this
    exact l3Write_nil w
  · have e : (ns.map (fun n => (n, (0 : Int)))).map Prod.fst = ns := by rw [List.map_map]; conv => rhs; rw [← List.map_id ns]
                                                                        rfl
    have hc4 : ∀ i (h : i < ns.length) d, d < 4 → w.cell? ⟨g, i * 4 + d, none⟩ = (nodeC ns[i])[d]? := fun i h d hd => by
      rw [ho.cellAt (i * 4 + d) (by omega), cellsN_at ns i d h hd]
    have := T.l3Write_row g cap (ns.map (fun n => (n, (0 : Int)))) w (by rw [List.length_map]; exact hl) (by rw [List.length_map]; exact hn) hc (ho.lt g rfl).2 (fun i hi => by
      have hi' : i < ns.length := by simpa using hi
      rw [List.getElem_map]
      refine ⟨⟨hc4 i hi' 0 (by omega), hc4 i hi' 1 (by omega), hc4 i hi' 2 (by omega), hc4 i hi' 3 (by omega)⟩, ?_, ?_⟩
      · have := tsz_mem (List.getElem_mem hi')
        show ns[i].text.size ≤ 1048576
        omega
      · have := hk _ (List.getElem_mem hi')
        show ns[i].kids ≤ 9223372036854775807
        omega) (by rw [e]; exact hf)
    rw [e, List.length_map] at this
    exact this
set_option maxRecDepth 100000 in
set_option maxHeartbeats 8000000 in
theorem proofText_spec (v : Value) (F : List Lm) (w : World) (h : LemsAt w v F) (hf : ∀ f ∈ F, LmB f) (_hn : F.length ≤ 1048576) :
    Calls Tryd.prog 5 #[v] w fun e w' => e = .returned (.string (strOf (proofT F))) ∧ Below w.heap.size w w' := by
  have HR := hidG hf
  obtain ⟨p, c, rfl, h1, h2, hA⟩ := h
  unfold maxLen at h2
  have HA := hidG hA
  obtain ⟨R, hRR⟩ : ∃ R, proofT F = R := ⟨_, rfl⟩
  have HRR := hidG hRR
  rw [hRR]
  clear hA hf hRR
  go_enter Tryd.func5, Tryd.ntmps5
  go_wp2_with fail
  go_loopw [11] (fun iv wr => ∃ i : Nat, i ≤ F.length ∧ iv = .int .i64 (i : Nat) ∧ (∀ j (h : j < F.length), j < i → lemOk F[j] = true) ∧ szN (nodesL F i) ≤ 20000 ∧ Ws w.heap.size (nodesL F i) false (szN (nodesL F i)) wr ∧ Below w.heap.size w wr) (fun iv _ => F.length - (intOf iv).toNat)
  case atStart => exact ⟨0, Nat.zero_le _, rfl, fun j _ h => absurd h (Nat.not_lt_zero _), Nat.zero_le _, ⟨_, bx_new w _ _, World.ownsRow_nil _ _ _ _⟩, below_alloc _ _⟩
  case round =>
    obtain ⟨i, hi, rfl, hp, hl, hws, hB⟩ := hrel
    have HB := hidG hB
    have HP := hidG hp
    have HW := hidG hws
    by_cases hlt : i < F.length
    · obtain ⟨b, rfl, hb, hcc⟩ : ∃ b, p = some ⟨b, 0, none⟩ ∧ b < w.heap.size ∧ ∀ i (h : i < F.length), LemR w b (i * 4) F[i] := by
        rcases HA.out with h | h
        · rw [h] at hlt; exact absurd hlt (Nat.not_lt_zero _)
        · exact h
      obtain ⟨k0, va, vb, vc, k1, k2, k3, hva, hvb, hvc⟩ := hcc i hlt
      rw [← hB.cell (p := ⟨b, i * 4, none⟩) hb] at k0
      rw [← hB.cell (p := ⟨b, i * 4 + 1, none⟩) hb] at k1
      rw [← hB.cell (p := ⟨b, i * 4 + 2, none⟩) hb] at k2
      rw [← hB.cell (p := ⟨b, i * 4 + 3, none⟩) hb] at k3
      have hx0 := HR.out _ (List.getElem_mem hlt)
      have HSN := hidG (nodesL_succ hlt)
      have HPF : Hid (lemOk F[i] = false → R = []) := fun e => by rw [← HRR.out]; exact proof_bad hlt e
      have HPL : Hid (lemOk F[i] = true → 20000 < szN (nodesL F (i + 1)) → R = []) := fun e hs => by
        rw [← HRR.out]
        refine proof_long (j := i + 1) ?_
        have := (nodes_sizes HR.out (i + 1) (by omega) (fun j hj hji => by
          by_cases e' : j = i
          · subst e'; exact e
          · exact HP.out j hj (by omega))).1
        omega
      have hnn := (nodes_sizes HR.out i (by omega) (fun j hj hji => hp j hj hji)).2.1
      obtain ⟨f, hx⟩ : ∃ f, F[i] = f := ⟨_, rfl⟩
      rw [hx] at k0 hva hvb hvc hx0 HSN HPF HPL
      have HX := hidG hx
      have HX0 := hidG hx0
      have HVA := hidG hva
      have HVB := hidG hvb
      have HVC := hidG hvc
      obtain ⟨pa, ca, rfl, -, -, -⟩ := hva
      obtain ⟨pb, cb, rfl, -, -, -⟩ := hvb
      obtain ⟨pc, cc, rfl, -, -, -⟩ := hvc
      obtain ⟨ns0, hns0⟩ : ∃ n, nodesL F i = n := ⟨_, rfl⟩
      obtain ⟨sz0, hsz0⟩ : ∃ n, szN (nodesL F i) = n := ⟨_, rfl⟩
      rw [hsz0] at hl hnn HW
      rw [hns0] at hnn HW HSN hsz0
      have HZ0 := hidG hsz0
      have HN0 := hidG hns0
      obtain ⟨W1, hW1⟩ : ∃ W1, wr.alloc (.cells #[.int .i64 f.kind, .slice pa f.lits.length ca, .slice pb f.chain.length cb, .slice pc f.tree.length cc] 40) = W1 := ⟨_, rfl⟩
      have HA1 : Hid (Below wr.heap.size wr W1) := by unfold Hid; rw [← hW1]; exact below_alloc _ _
      have HB1 : Hid (Below w.heap.size w W1) := HB.out.trans (HA1.out.mono HB.out.size)
      have HX1 : Hid (Bx W1 wr.heap.size [.int .i64 f.kind, .slice pa f.lits.length ca, .slice pb f.chain.length cb, .slice pc f.tree.length cc]) := by unfold Hid; rw [← hW1]; exact bx_new wr _ _
      have HWs := hidG (HW.out.below HA1.out)
      have HW1 := hidG hW1
      obtain ⟨d0, d1, d2, d3⟩ := c4 HX1.out
      have HC : Hid (Calls Tryd.prog 10 #[.pointer (some ⟨w.heap.size, 0, none⟩), .agg #[.int .i64 f.kind, .slice pa f.lits.length ca, .slice pb f.chain.length cb, .slice pc f.tree.length cc]] W1 fun e w' => e = .returned (.tuple #[]) ∧ Done w.heap.size f ns0 sz0 w' ∧ Fr w.heap.size W1 w') := lemma_any w.heap.size f _ _ _ ns0 sz0 w W1 (Nat.le_refl _) HB1.out HVA.out HVB.out HVC.out HX0.out HWs.out (by omega) hl
      clear hcc hx hB hx0 hW1 hp hws hsz0 hns0 HW
      go_wp2_with (rw [HW1.out])
      refine HC.out.mono ?_
      rintro e w2 ⟨rfl, ⟨ns, bad, sz, hws, hsz, hcase⟩, hfr⟩
      have HB2 : Hid (Below w.heap.size w w2) := HB1.out.trans hfr.bel
      have HW2 := hidG hws
      obtain ⟨v2, hx2, -⟩ := hws.ex
      obtain ⟨z0, z1, z2⟩ := hx2.c3
      clear hx2 hws hfr d0 d1 d2 d3
      rcases hcase with ⟨rfl, hs2, hok, rfl, rfl⟩ | ⟨hbs, hbad⟩
      · have yb : decide (20000 < ((sz0 + szN (lemP f).1 : Nat) : Int)) = false := decide_eq_false (by omega)
        have HOK := hidG hok
        obtain ⟨sz3, hsz3⟩ : ∃ z, sz0 + szN (lemP f).1 = z := ⟨_, rfl⟩
        rw [hsz3] at yb z2 HW2 hs2
        have HZ3 := hidG hsz3
        clear hok hsz3
        go_wp2_with fail
        go_roundw
        case rel =>
          have e : szN (nodesL F (i + 1)) = sz3 := by rw [HSN.out, szN_app, HZ0.out, HZ3.out]
          refine ⟨i + 1, by omega, by go_num, fun j hj hji => ?_, by omega, ?_, HB2.out⟩
          · by_cases e' : j = i
            · subst e'; rw [HX.out]; exact HOK.out
            · exact HP.out j hj (by omega)
          · rw [e, HSN.out]; exact HW2.out
        case measure => simp [intOf]; omega
      · have HF : Hid (R = []) := by
          unfold Hid
          cases hok : lemOk f with
          | false => exact HPF.out hok
          | true =>
            rcases hbad with h | h
            · rw [hok] at h; cases h
            · exact HPL.out hok (by rw [HSN.out, szN_app, HZ0.out]; exact h)
        clear hbad
        cases bad with
        | true =>
          go_wp2_with fail
          go_ret
          rw [HF.out]
          exact ⟨rfl, HB2.out⟩
        | false =>
          have yb : decide (20000 < (sz : Int)) = true := decide_eq_true (by
            rcases hbs with h | h
            · cases h
            · omega)
          clear hbs
          go_wp2_with fail
          go_ret
          rw [HF.out]
          exact ⟨rfl, HB2.out⟩
    · have hie : i = F.length := by omega
      subst hie
      have hall : ∀ j (hj : j < F.length), lemOk F[j] = true := fun j hj => hp j hj hj
      obtain ⟨s1, s2, s3⟩ := nodes_sizes HR.out F.length (Nat.le_refl _) (fun j hj _ => hall j hj)
      rw [List.take_of_length_le (Nat.le_refl _)] at s1
      have HROW := hidG (nodes_row HR.out hall)
      have HFIT := hidG (nodes_fit HR.out hall hl)
      have HKD := hidG (kd_nodes HR.out F.length)
      obtain ⟨v2, hx2, ho2⟩ := hws.ex
      have HO2 := hidG ho2
      have HL : Hid ((nodesL F F.length).length ≤ 20000 ∧ tsz (nodesL F F.length) ≤ 20000) := ⟨by omega, by omega⟩
      obtain ⟨z0, z1, z2⟩ := hx2.c3
      have HPG : Hid ((linesT F).length ≤ 20000 → R = linesT F) := fun e => by rw [← HRR.out]; exact proof_good hall e
      have HPL : Hid (20000 < (linesT F).length → R = []) := fun e => by
        rw [← HRR.out]
        refine proof_long (j := F.length) ?_
        rw [List.take_of_length_le (Nat.le_refl _)]
        exact e
      obtain ⟨pv, cv, rfl⟩ : ∃ p c, v2 = .slice p (nodesL F F.length).length c := by
        rcases ho2.2 with ⟨rfl, h0⟩ | ⟨g, cap, _, rfl, _⟩
        · exact ⟨none, 0, by rw [h0]⟩
        · exact ⟨_, _, rfl⟩
      have hls := strOf_size (linesT F)
      obtain ⟨u, hu⟩ : ∃ u, strOf (linesT F) = u := ⟨_, rfl⟩
      rw [hu] at hls
      have HU := hidG hu
      have HLS := hidG hls
      clear hx2 ho2 hws hall hp hB hu hls s1 s2 s3
      by_cases hlong : 20000 < u.size
      · have yb : decide (20000 < (u.size : Int)) = true := decide_eq_true (by omega)
        go_wp2_with (go_at_call 11; refine (l3Write_any w.heap.size _ _ _ HO2.out HL.out.1 HKD.out HL.out.2 HFIT.out).mono ?_; rintro e w3 ⟨rfl, hb3⟩; rw [HROW.out, HU.out]; have HB3 : Hid (Below w.heap.size w w3) := HB.out.trans (hb3.mono HB.out.size); clear hb3)
        go_ret
        rw [HPL.out (by have := HLS.out; omega)]
        exact ⟨rfl, HB3.out⟩
      · have yb : decide (20000 < (u.size : Int)) = false := decide_eq_false (by omega)
        go_wp2_with (go_at_call 11; refine (l3Write_any w.heap.size _ _ _ HO2.out HL.out.1 HKD.out HL.out.2 HFIT.out).mono ?_; rintro e w3 ⟨rfl, hb3⟩; rw [HROW.out, HU.out]; have HB3 : Hid (Below w.heap.size w w3) := HB.out.trans (hb3.mono HB.out.size); clear hb3)
        go_ret
        rw [HPG.out (by have := HLS.out; omega), HU.out]
        exact ⟨rfl, HB3.out⟩
end Go.Proofs.YtdphpfffofeklaaDoor.P

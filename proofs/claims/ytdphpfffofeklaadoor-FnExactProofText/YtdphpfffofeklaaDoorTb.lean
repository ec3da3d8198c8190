import Derived.Test.YtdphpfffofeklaaDoorTa

namespace Go.Proofs.YtdphpfffofeklaaDoor.T
open Go.ChangeShapes Go.WideShapes Go.ChangeAt Go.RowKit
theorem last_row {nd : Nd} {L : List Int} {A : List UInt8} {i : Nat} (hA : ∃ p c, A = p ++ [c] ∧ (c = 40 ↔ nd.kind = 1)) (hi : closedL nd L = i) : ∃ p lb, A ++ List.replicate i 41 = p ++ [lb] ∧ (decide (nd.kind = 1) && decide (closedL nd L = 0)) = decide (lb = 40) := by
  rw [hi]
  cases i with
  | zero =>
    obtain ⟨p, c, h1, h2⟩ := hA
    refine ⟨p, c, by rw [h1]; simp, ?_⟩
    by_cases hk : nd.kind = 1
    · rw [decide_eq_true hk, h2.2 hk]; rfl
    · rw [decide_eq_false hk, decide_eq_false (fun e => hk (h2.1 e))]; rfl
  | succ i =>
    refine ⟨A ++ List.replicate i 41, 41, by rw [List.replicate_succ']; simp, ?_⟩
    rw [decide_eq_false (by omega : ¬ i + 1 = 0), Bool.and_false]; rfl
theorem tok_end {nd : Nd} (hk : nodeOk nd = true) : ∃ p c, tokT nd.kind nd.t = p ++ [c] ∧ (c = 40 ↔ nd.kind = 1) := by
  by_cases h1 : nd.kind = 1
  · rw [h1]; exact ⟨[], 40, rfl, by simp⟩
  · obtain ⟨p, c, h2, h3⟩ := tok_last hk h1
    exact ⟨p, c, h2, fun e => absurd e h3, fun e => absurd e h1⟩
theorem end_app {nd : Nd} {A T : List UInt8} (h : ∃ p c, T = p ++ [c] ∧ (c = 40 ↔ nd.kind = 1)) : ∃ p c, A ++ T = p ++ [c] ∧ (c = 40 ↔ nd.kind = 1) := by
  obtain ⟨p, c, h1, h2⟩ := h
  exact ⟨A ++ p, c, by rw [h1]; simp, h2⟩
theorem ne_box {W : World} {base nb : Nat} {e t : TypeId} {v : Value} {n : Nat} {xs : List Value} {cs : Array Value} {fz : Nat × Nat} (h : W.ownsRow base e 1 v n xs) (hb : W.heap[nb]? = some (.cells cs t fz)) (hne : e ≠ t) : some nb ≠ v.ownBlock := by
  intro e'
  obtain ⟨c, f, hc⟩ := own_kind h nb e'.symm
  rw [hb] at hc
  cases hc
  exact hne rfl
theorem box_app {W W' : World} {nb base : Nat} {o : Obj} {e t : TypeId} {v : Value} {n : Nat} {xs : List Value} {cs : Array Value} {fz : Nat × Nat} (hg : (W.alloc o).grownBy W' v.ownBlock) (hown : W.ownsRow base e 1 v n xs) (hbx : W.heap[nb]? = some (.cells cs t fz)) (hne : e ≠ t) : W'.heap[nb]? = some (.cells cs t fz) := by
  have hlt := (Array.getElem?_eq_some_iff.1 hbx).1
  have h0 : (W.alloc o).heap[nb]? = some (.cells cs t fz) := ((below_alloc W o).block nb hlt).trans hbx
  exact (hg.block nb (by simp; omega) (ne_box (hown.alloc o) h0 hne)).trans h0
theorem own_to {W : World} {base : Nat} {e : TypeId} {v : Value} {n m : Nat} {xs ys : List Value} (h : W.ownsRow base e 1 v n xs) (hx : xs = ys) (hm : ys.length = m) : W.ownsRow base e 1 v m ys := by
  subst hx
  have h1 := h.1
  have : n = m := by omega
  subst this
  exact h
theorem conv_any {base : Nat} {W : World} {v : Value} {l : List UInt8} (h : W.ownsRow base 5 1 v l.length (Lib.byteCells l)) :
    (convert 45 9 v).run Tryd.prog W = .ok (.string (strOf l)) W := by
  rcases l with _ | ⟨c, r⟩
  · have h' := h
    rcases h.2 with ⟨rfl, _⟩ | ⟨g, cap, cur, rfl, _⟩
    · show (convert 45 9 (.slice none 0 0)).run Tryd.prog W = .ok (.string (strOf [])) W
      kernel_rfl
    · refine run_convert_bytes_back (P := Tryd.prog) W 45 9 5 ⟨g, 0, none⟩ cap [] Tryd.underlying45 Tryd.underlying5 Tryd.underlying9 (fun j hj => absurd hj (by simp))
  · exact conv_cells h (by simp)
set_option maxRecDepth 100000 in
set_option maxHeartbeats 8000000 in
theorem l3Write_row (b c : Nat) (ns : List (Nd × Int)) (w : World) (hn : ns.length ≤ 20000) (hc : ns.length ≤ c) (hm : c ≤ maxLen) (hb : b < w.heap.size) (hN : NodesAt w b ns)
    (hfit : fitF (ns.map Prod.fst) 0 [] = true) :
    Calls Tryd.prog 11 #[.slice (some ⟨b, 0, none⟩) ns.length c] w fun e w' => e = .returned (.string (strOf (rowS (ns.map Prod.fst) [] true))) ∧ Below w.heap.size w w' := by
  unfold maxLen at hm
  have HN := hidG hN
  obtain ⟨R, hR⟩ : ∃ R, rowS (ns.map Prod.fst) [] true = R := ⟨_, rfl⟩
  have HR := hidG hR
  have HFT := hidG hfit
  rw [hR]
  clear hN hR hfit
  go_enter Tryd.func11, Tryd.ntmps11
  go_wp2_with fail
  go_loopw [3, 4, 9] (fun vo vl iv wr => ∃ (j zz : Nat) (acc : List UInt8) (L : List Int) (bf : Bool), j ≤ ns.length ∧ zz ≤ 20000 ∧ iv = .int .i64 j ∧ L.length ≤ 200 ∧ posL L ∧ fitF ((ns.map Prod.fst).drop j) zz L = true ∧ acc ++ rowS ((ns.map Prod.fst).drop j) L bf = R ∧ acc.length ≤ j * 50000 ∧
      (L ≠ [] → ∃ p lb, acc = p ++ [lb] ∧ bf = decide (lb = 40)) ∧ wr.ownsRow w.heap.size 5 1 vo acc.length (Lib.byteCells acc) ∧ wr.ownsRow w.heap.size 3 1 vl L.length (ints L) ∧ Below w.heap.size w wr) (fun _ _ iv _ => ns.length - (intOf iv).toNat)
  case atStart => exact ⟨0, 0, [], [], true, Nat.zero_le _, Nat.zero_le _, rfl, Nat.zero_le _, ⟨fun x hx => (by simp at hx), fun a r e => (by simp at e)⟩, HFT.out, HR.out, Nat.zero_le _, fun h => absurd rfl h, World.ownsRow_nil _ _ _ _, World.ownsRow_nil _ _ _ _, Below.refl _ _⟩
  case round =>
    obtain ⟨j, zz, acc, L, bf, hj, hzz, rfl, hLl, hpos, hf, hrr, hal, hlast, hown, hownL, hB⟩ := hrel
    have HB := hidG hB
    have HPL := hidG hpos
    have HLA := hidG hlast
    clear hpos hlast
    by_cases hlt : j < ns.length
    · obtain ⟨⟨k0, k1, k2, k3⟩, htx, hkd⟩ := HN.out j hlt
      rw [← hB.cell (p := ⟨b, j * 4, none⟩) hb] at k0
      rw [← hB.cell (p := ⟨b, j * 4 + 1, none⟩) hb] at k1
      rw [← hB.cell (p := ⟨b, j * 4 + 2, none⟩) hb] at k2
      rw [← hB.cell (p := ⟨b, j * 4 + 3, none⟩) hb] at k3
      rw [drop_nds hlt] at hf hrr
      obtain ⟨q, hq⟩ : ∃ q, ns[j].2 = q := ⟨_, rfl⟩
      obtain ⟨nd, hnd⟩ : ∃ nd, ns[j].1 = nd := ⟨_, rfl⟩
      rw [hnd] at k0 k1 k2 hf hrr htx hkd
      rw [hq] at k3
      obtain ⟨h1, h2, h9, hfs⟩ := fitF_step hf
      have h0k := (nodeOk_split h2).1
      have HNO := hidG h2
      have HFS0 := hidG hfs
      have hsl := stepL_len hLl h9
      have hML0 : (pushL nd L).length ≤ 201 := by
        rw [pushL_len]; split <;> omega
      obtain ⟨S, hS⟩ : ∃ S, stepL nd L = S := ⟨_, rfl⟩
      have HSS := hidG hS
      have HSL : Hid (S.length ≤ 200) := by unfold Hid; rw [← hS]; exact hsl.1
      have HSP : Hid (posL S) := by unfold Hid; rw [← hS]; exact stepL_pos HPL.out h0k hkd
      have HFS : Hid (fitF ((ns.map Prod.fst).drop (j + 1)) (zz + nd.text.size) S = true) := by unfold Hid; rw [← hS]; exact HFS0.out
      obtain ⟨ML, hML⟩ : ∃ ML, (pushL nd L).length = ML := ⟨_, rfl⟩
      have HPM := hidG hML
      rw [hML] at hML0
      obtain ⟨tk, htk⟩ : ∃ tk, strOf (tokT nd.kind nd.text.data.toList) = tk := ⟨_, rfl⟩
      have HTK := hidG htk
      have HTL : Hid (tk.data.toList = tokT nd.kind nd.t) := by unfold Hid; rw [← htk, strOf_toList]; rfl
      have hts : tk.size ≤ 40002 := by
        have := tokT_len nd.kind nd.text.data.toList
        rw [← strOf_toList (tokT nd.kind nd.text.data.toList), htk, ← Lib.size_eq, ← Lib.size_eq] at this
        omega
      have HRR := hidG hrr
      have hwsz := hB.size
      obtain ⟨sep, hsep⟩ : ∃ sep, (if L.isEmpty || bf then [] else [(32 : UInt8)]) = sep := ⟨_, rfl⟩
      have HSEP := hidG hsep
      obtain ⟨A2, hA2⟩ : ∃ A2, acc ++ (sep ++ tokT nd.kind nd.t) = A2 := ⟨_, rfl⟩
      have HA2 := hidG hA2
      have HEN : Hid (∃ p c, A2 = p ++ [c] ∧ (c = 40 ↔ nd.kind = 1)) := by unfold Hid; rw [← hA2, ← List.append_assoc]; exact end_app (tok_end HNO.out)
      have hal2 : A2.length ≤ acc.length + 40003 := by
        have e1 : sep.length ≤ 1 := by rw [← hsep]; split <;> simp
        have e2 : (tokT nd.kind nd.t).length = tk.size := by rw [Lib.size_eq, HTL.out]
        rw [← hA2]; simp; omega
      clear hq hnd hf hrr h2 h9 hfs hsl htk hS hML hsep hA2
      by_cases hL0 : L = []
      · rw [hL0, show ([] : List Int).length = 0 from rfl] at hownL
        obtain ⟨p0, cp0, rfl⟩ := own_shape hownL
        have HSP2 : Hid (sep = []) := by unfold Hid; rw [← HSEP.out, hL0]; rfl
        have HOo : Hid ((wr.alloc (.cells #[.int .i64 nd.kind, .string nd.text, .int .i64 nd.kids, .int .i64 q] 67)).ownsRow w.heap.size 5 1 _ acc.length (Lib.byteCells acc)) := hown.alloc _
        have HLf := hidG (hownL.alloc (.cells #[.int .i64 nd.kind, .string nd.text, .int .i64 nd.kids, .int .i64 q] 67))
        have HBX : Hid ((wr.alloc (.cells #[.int .i64 nd.kind, .string nd.text, .int .i64 nd.kids, .int .i64 q] 67)).heap[wr.heap.size]? = some (Obj.cells #[.int .i64 nd.kind, .string nd.text, .int .i64 nd.kids, .int .i64 q] 67 (0, 0))) := Array.getElem?_push_size
        have HBw : Hid (Below w.heap.size w (wr.alloc (.cells #[.int .i64 nd.kind, .string nd.text, .int .i64 nd.kids, .int .i64 q] 67))) := hB.alloc hwsz _
        clear hown hownL hB
        by_cases hk1 : nd.kind = 1
        · have HK := hidG hk1
          have HTE : Hid (tokT nd.kind nd.t = [40]) := by unfold Hid; rw [hk1]; rfl
          have y1 : (nd.kind == 1) = true := by rw [beq_iff_eq]; exact hk1
          clear hk1
          have HPS : Hid (popZ [nd.kids] = S) := by unfold Hid; rw [← HSS.out]; simp [stepL, pushL, HK.out, hL0, decL]
          have HML : Hid (0 + ([nd.kids] : List Int).length = ML) := by unfold Hid; rw [← HPM.out]; simp [pushL, HK.out, hL0, decL]
          clear hL0
          go_wp2_with (first | (at_builtin; refine wpList_appI rfl _ _ rfl rfl HLf.out _ rfl (by simp) (by omega) HBw.out.size ?_; intro g3 c3 W3 hown3 hgr3; have hbx := box_app hgr3 HLf.out HBX.out (by decide); have HOo := hidG (own_apart (HLf.out.alloc _) (HOo.out.alloc _) (by decide) hgr3); have HBX := hidG hbx; have HBw : Hid (Below w.heap.size w W3) := ((HBw.out.alloc HBw.out.size _).grown hgr3 (by have := HBw.out.size; simp; omega) (fun k e => (HLf.out.lt k e).1)); have HLf := hidG hown3; obtain ⟨c0, c1, c2, c4⟩ := cells_of hbx; clear hbx hown3 hgr3) | (at_builtin; refine wpList_appB rfl _ _ rfl rfl HOo.out _ rfl (by simp) (by omega) HBw.out.size ?_; intro g3 c3 W3 hown3 hgr3; have hbx := box_app hgr3 HOo.out HBX.out (by decide); have HLf := hidG (own_apart (HOo.out.alloc _) (HLf.out.alloc _) (by decide) hgr3); have HBX := hidG hbx; have HBw : Hid (Below w.heap.size w W3) := ((HBw.out.alloc HBw.out.size _).grown hgr3 (by have := HBw.out.size; simp; omega) (fun k e => (HOo.out.lt k e).1)); have HOo := hidG hown3; obtain ⟨c0, c1, c2, c4⟩ := cells_of hbx; clear hbx hown3 hgr3))
          have HO2 := hidG (own_to HOo.out (ys := Lib.byteCells A2) (by rw [← HA2.out, HTE.out, HSP2.out]; simp [Lib.byteCells]) (Lib.byteCells_length A2))
          have HL2 := hidG (own_to HLf.out (ys := ints [nd.kids]) (by simp [ints]) (ints_len _))
          have HB2 := HBw
          go_loopw [3, 4] (fun vo vl wq => ∃ (i : Nat) (M : List Int), popZ M = S ∧ i + M.length = ML ∧ wq.ownsRow w.heap.size 5 1 vo (A2.length + i) (Lib.byteCells (A2 ++ List.replicate i 41)) ∧ wq.ownsRow w.heap.size 3 1 vl M.length (ints M) ∧ Below w.heap.size w wq) (fun _ vl _ => lenV vl)
          case atStart => exact ⟨0, _, HPS.out, HML.out, by rw [List.replicate_zero, List.append_nil]; exact HO2.out, HL2.out, HB2.out⟩
          case round =>
            obtain ⟨i, M, hM, hiM, hown, hownM, hB⟩ := hrel
            have HOo := hidG hown
            have HOM := hidG hownM
            have HBw := hidG hB
            have hi2 : i ≤ 201 := by omega
            rcases M with _ | ⟨m, M⟩
            · obtain ⟨p, cp, rfl⟩ := own_shape hownM
              have HS : Hid (S = []) := hM.symm
              have HCL : Hid (closedL nd L = i) := by
                show (pushL nd L).length - (stepL nd L).length = i
                rw [HSS.out, HS.out, HPM.out]
                simp at hiM ⊢
                omega
              clear hM hown hownM hB hiM
              go_wp2_with (first | (at_builtin; refine wpList_appB rfl _ _ rfl rfl HOo.out _ rfl rfl (by omega) HBw.out.size ?_; intro g3 c3 W3 hown3 hgr3; have HLf := hidG (own_apart (HOo.out.alloc _) (HOM.out.alloc _) (by decide) hgr3); have HB3 : Hid (Below w.heap.size w W3) := (HBw.out.alloc HBw.out.size _).grown hgr3 (by have := HBw.out.size; simp; omega) (fun k e => (HOo.out.lt k e).1); have HO3 := hidG hown3; clear hown3 hgr3))
              go_roundw
              case rel =>
                refine ⟨j + 1, zz + nd.text.size, A2 ++ List.replicate i 41 ++ [10], S, decide (nd.kind = 1) && decide (closedL nd L = 0), by omega, by omega, by go_num, HSL.out, HSP.out, HFS.out, ?_, ?_, ?_, ?_, ?_, HB3.out⟩
                · rw [← HRR.out, ← HA2.out]
                  simp only [rowS, HCL.out, HSS.out, HS.out, HSEP.out, List.append_assoc]
                  rfl
                · simp; omega
                · intro h; exact absurd HS.out h
                · exact own_to HO3.out (byteCells_snoc _ 10) (Lib.byteCells_length _)
                · rw [HS.out]; exact HLf.out
              case measure => simp [intOf]; omega
            · obtain ⟨gm, cm, rfl⟩ := ownsRow_succ hownM
              have hcm := hownM.cellAt M.length (by simp)
              rw [ints_at] at hcm
              have hcap := own_cap hownM
              have hgm := (hownM.lt gm rfl).2
              have hMl : M.length + 1 ≤ 201 := by have h3 : i + (M.length + 1) = ML := hiM; omega
              by_cases hm0 : m = 0
              · subst hm0
                have HM2 : Hid (popZ M = S) := by have := hM; simp only [popZ, if_true] at this; exact this
                have hiM2 : i + (M.length + 1) = ML := hiM
                clear hM hown hownM hB hiM
                go_wp2_with (first | (at_builtin; refine wpList_appB rfl _ _ rfl rfl HOo.out _ rfl rfl (by omega) HBw.out.size ?_; intro g3 c3 W3 hown3 hgr3; have HLf := hidG (own_apart (HOo.out.alloc _) (HOM.out.alloc _) (by decide) hgr3); have HB3 : Hid (Below w.heap.size w W3) := (HBw.out.alloc HBw.out.size _).grown hgr3 (by have := HBw.out.size; simp; omega) (fun k e => (HOo.out.lt k e).1); have HO3 := hidG hown3; clear hown3 hgr3))
                go_roundw
                case rel =>
                  refine ⟨i + 1, M, HM2.out, by omega, ?_, ?_, HB3.out⟩
                  · have := HO3.out
                    rw [show Lib.byteCells (A2 ++ List.replicate i 41) ++ [Value.int .u8 41] = Lib.byteCells (A2 ++ List.replicate i 41 ++ [41]) from byteCells_snoc _ 41, List.append_assoc, ← List.replicate_succ'] at this
                    exact this
                  · exact ownsRow_pop (size := 1) (n := M.length) (xs := ints M) (last := [.int .i64 0]) (by rw [ints_len]; omega) (by rw [← ints_cons]; exact HLf.out)
                case measure => simp [lenV]
              · have hm1 : (m == 0) = false := by rw [beq_eq_false_iff_ne]; exact hm0
                have hm2 : (((M.length : Int) + 1) == 0) = false := by rw [beq_eq_false_iff_ne]; omega
                have HS : Hid (S = m :: M) := by have := hM; simp only [popZ, if_neg hm0] at this; exact this.symm
                have HCL : Hid (closedL nd L = i) := by
                  show (pushL nd L).length - (stepL nd L).length = i
                  rw [HSS.out, HS.out, HPM.out]
                  simp at hiM ⊢
                  omega
                clear hM hown hownM hB hm0 hiM
                go_wp2_with fail
                go_roundw
                case rel =>
                  refine ⟨j + 1, zz + nd.text.size, A2 ++ List.replicate i 41, S, decide (nd.kind = 1) && decide (closedL nd L = 0), by omega, by omega, by go_num, HSL.out, HSP.out, HFS.out, ?_, ?_, ?_, ?_, ?_, HBw.out⟩
                  · rw [← HRR.out, ← HA2.out]
                    simp only [rowS, HCL.out, HSS.out, HS.out, HSEP.out, List.append_assoc, List.isEmpty_cons, Bool.false_eq_true, if_false, List.nil_append]
                  · simp; omega
                  · intro _; exact last_row HEN.out HCL.out
                  · exact own_to HOo.out rfl (Lib.byteCells_length _)
                  · rw [HS.out]; exact HOM.out
                case measure => simp [intOf]; omega
        · have HK : Hid (¬ nd.kind = 1) := hk1
          have HK1 : Hid (nd.kind ≠ 1) := hk1
          have y1 : (nd.kind == 1) = false := by rw [beq_eq_false_iff_ne]; exact hk1
          clear hk1
          have HPS : Hid (popZ [] = S) := by unfold Hid; rw [← HSS.out]; simp [stepL, pushL, HK.out, hL0, decL]
          have HML : Hid (0 + ([] : List Int).length = ML) := by unfold Hid; rw [← HPM.out]; simp [pushL, HK.out, hL0, decL]
          clear hL0
          go_wp2_with (first | (go_at_call 24; refine (l3Written_any nd q _ (by omega) HNO.out HK1.out).mono ?_; rintro e w1 ⟨rfl, hb1⟩; rw [HTK.out]; have HOo := hidG (own_below HOo.out hb1); have HLf := hidG (own_below HLf.out hb1); have HBw : Hid (Below w.heap.size w w1) := HBw.out.trans (hb1.mono HBw.out.size); clear hb1) | (at_builtin; refine wpList_appS rfl _ _ rfl rfl HOo.out rfl (by omega) (by omega) HBw.out.size ?_; intro v3 W3 hown3 hgr3; have HLf := hidG (own_apart HOo.out HLf.out (by decide) hgr3); have HBw : Hid (Below w.heap.size w W3) := (HBw.out.grown hgr3 HBw.out.size (fun k e => (HOo.out.lt k e).1)); have HOo := hidG hown3; clear hown3 hgr3) | (at_builtin; refine wpList_appB rfl _ _ rfl rfl HOo.out _ rfl (by simp) (by omega) HBw.out.size ?_; intro g3 c3 W3 hown3 hgr3; have hbx := box_app hgr3 HOo.out HBX.out (by decide); have HLf := hidG (own_apart (HOo.out.alloc _) (HLf.out.alloc _) (by decide) hgr3); have HBX := hidG hbx; have HBw : Hid (Below w.heap.size w W3) := ((HBw.out.alloc HBw.out.size _).grown hgr3 (by have := HBw.out.size; simp; omega) (fun k e => (HOo.out.lt k e).1)); have HOo := hidG hown3; obtain ⟨c0, c1, c2, c4⟩ := cells_of hbx; clear hbx hown3 hgr3))
          have HO2 := hidG (own_to HOo.out (ys := Lib.byteCells A2) (by rw [← HA2.out, ← HTL.out, HSP2.out, Lib.strCells_eq]; simp [Lib.byteCells]) (Lib.byteCells_length A2))
          have HL2 := hidG (own_to HLf.out (ys := ints []) (by rfl) (ints_len _))
          have HB2 := HBw
          go_loopw [3, 4] (fun vo vl wq => ∃ (i : Nat) (M : List Int), popZ M = S ∧ i + M.length = ML ∧ wq.ownsRow w.heap.size 5 1 vo (A2.length + i) (Lib.byteCells (A2 ++ List.replicate i 41)) ∧ wq.ownsRow w.heap.size 3 1 vl M.length (ints M) ∧ Below w.heap.size w wq) (fun _ vl _ => lenV vl)
          case atStart => exact ⟨0, _, HPS.out, HML.out, by rw [List.replicate_zero, List.append_nil]; exact HO2.out, HL2.out, HB2.out⟩
          case round =>
            obtain ⟨i, M, hM, hiM, hown, hownM, hB⟩ := hrel
            have HOo := hidG hown
            have HOM := hidG hownM
            have HBw := hidG hB
            have hi2 : i ≤ 201 := by omega
            rcases M with _ | ⟨m, M⟩
            · obtain ⟨p, cp, rfl⟩ := own_shape hownM
              have HS : Hid (S = []) := hM.symm
              have HCL : Hid (closedL nd L = i) := by
                show (pushL nd L).length - (stepL nd L).length = i
                rw [HSS.out, HS.out, HPM.out]
                simp at hiM ⊢
                omega
              clear hM hown hownM hB hiM
              go_wp2_with (first | (at_builtin; refine wpList_appB rfl _ _ rfl rfl HOo.out _ rfl rfl (by omega) HBw.out.size ?_; intro g3 c3 W3 hown3 hgr3; have HLf := hidG (own_apart (HOo.out.alloc _) (HOM.out.alloc _) (by decide) hgr3); have HB3 : Hid (Below w.heap.size w W3) := (HBw.out.alloc HBw.out.size _).grown hgr3 (by have := HBw.out.size; simp; omega) (fun k e => (HOo.out.lt k e).1); have HO3 := hidG hown3; clear hown3 hgr3))
              go_roundw
              case rel =>
                refine ⟨j + 1, zz + nd.text.size, A2 ++ List.replicate i 41 ++ [10], S, decide (nd.kind = 1) && decide (closedL nd L = 0), by omega, by omega, by go_num, HSL.out, HSP.out, HFS.out, ?_, ?_, ?_, ?_, ?_, HB3.out⟩
                · rw [← HRR.out, ← HA2.out]
                  simp only [rowS, HCL.out, HSS.out, HS.out, HSEP.out, List.append_assoc]
                  rfl
                · simp; omega
                · intro h; exact absurd HS.out h
                · exact own_to HO3.out (byteCells_snoc _ 10) (Lib.byteCells_length _)
                · rw [HS.out]; exact HLf.out
              case measure => simp [intOf]; omega
            · obtain ⟨gm, cm, rfl⟩ := ownsRow_succ hownM
              have hcm := hownM.cellAt M.length (by simp)
              rw [ints_at] at hcm
              have hcap := own_cap hownM
              have hgm := (hownM.lt gm rfl).2
              have hMl : M.length + 1 ≤ 201 := by have h3 : i + (M.length + 1) = ML := hiM; omega
              by_cases hm0 : m = 0
              · subst hm0
                have HM2 : Hid (popZ M = S) := by have := hM; simp only [popZ, if_true] at this; exact this
                have hiM2 : i + (M.length + 1) = ML := hiM
                clear hM hown hownM hB hiM
                go_wp2_with (first | (at_builtin; refine wpList_appB rfl _ _ rfl rfl HOo.out _ rfl rfl (by omega) HBw.out.size ?_; intro g3 c3 W3 hown3 hgr3; have HLf := hidG (own_apart (HOo.out.alloc _) (HOM.out.alloc _) (by decide) hgr3); have HB3 : Hid (Below w.heap.size w W3) := (HBw.out.alloc HBw.out.size _).grown hgr3 (by have := HBw.out.size; simp; omega) (fun k e => (HOo.out.lt k e).1); have HO3 := hidG hown3; clear hown3 hgr3))
                go_roundw
                case rel =>
                  refine ⟨i + 1, M, HM2.out, by omega, ?_, ?_, HB3.out⟩
                  · have := HO3.out
                    rw [show Lib.byteCells (A2 ++ List.replicate i 41) ++ [Value.int .u8 41] = Lib.byteCells (A2 ++ List.replicate i 41 ++ [41]) from byteCells_snoc _ 41, List.append_assoc, ← List.replicate_succ'] at this
                    exact this
                  · exact ownsRow_pop (size := 1) (n := M.length) (xs := ints M) (last := [.int .i64 0]) (by rw [ints_len]; omega) (by rw [← ints_cons]; exact HLf.out)
                case measure => simp [lenV]
              · have hm1 : (m == 0) = false := by rw [beq_eq_false_iff_ne]; exact hm0
                have hm2 : (((M.length : Int) + 1) == 0) = false := by rw [beq_eq_false_iff_ne]; omega
                have HS : Hid (S = m :: M) := by have := hM; simp only [popZ, if_neg hm0] at this; exact this.symm
                have HCL : Hid (closedL nd L = i) := by
                  show (pushL nd L).length - (stepL nd L).length = i
                  rw [HSS.out, HS.out, HPM.out]
                  simp at hiM ⊢
                  omega
                clear hM hown hownM hB hm0 hiM
                go_wp2_with fail
                go_roundw
                case rel =>
                  refine ⟨j + 1, zz + nd.text.size, A2 ++ List.replicate i 41, S, decide (nd.kind = 1) && decide (closedL nd L = 0), by omega, by omega, by go_num, HSL.out, HSP.out, HFS.out, ?_, ?_, ?_, ?_, ?_, HBw.out⟩
                  · rw [← HRR.out, ← HA2.out]
                    simp only [rowS, HCL.out, HSS.out, HS.out, HSEP.out, List.append_assoc, List.isEmpty_cons, Bool.false_eq_true, if_false, List.nil_append]
                  · simp; omega
                  · intro _; exact last_row HEN.out HCL.out
                  · exact own_to HOo.out rfl (Lib.byteCells_length _)
                  · rw [HS.out]; exact HOM.out
                case measure => simp [intOf]; omega
      · obtain ⟨a, r, hLr⟩ := List.exists_cons_of_ne_nil hL0
        obtain ⟨p, lb, hacc, hbf⟩ := HLA.out hL0
        have hLl' : r.length + 1 ≤ 200 := by rw [hLr] at hLl; exact hLl
        have ha := HPL.out.1 a (by rw [hLr]; simp)
        have ha1 := HPL.out.2 a r hLr
        rw [hLr] at hownL
        obtain ⟨g, cl, rfl⟩ := ownsRow_succ hownL
        have hown' := own_to hown (ys := Lib.byteCells (p ++ [lb])) (m := p.length + 1) (by rw [hacc]) (by simp [Lib.byteCells])
        obtain ⟨go, co, rfl⟩ := ownsRow_succ hown'
        have hgo : g ≠ go := by
          intro e
          obtain ⟨c1, f1, k5⟩ := own_kind hownL g rfl
          obtain ⟨c2, f2, k6⟩ := own_kind hown' go rfl
          rw [← e, k5] at k6
          cases k6
        have hcl := hown'.cellAt p.length (by omega)
        rw [show (Lib.byteCells (p ++ [lb]))[p.length]? = some (.int .u8 (lb.toNat : Int)) by simp [Lib.byteCells]] at hcl
        have hcl2 : (wr.setCell ⟨g, r.length, none⟩ (.int .i64 (a - 1))).cell? ⟨go, p.length, none⟩ = some (.int .u8 (lb.toNat : Int)) := by rw [World.cell?_setCell_far _ _ _ _ hgo]; exact hcl
        have hcapo := own_cap hown'
        have hcapl := own_cap hownL
        have lgo := (hown'.lt go rfl).2
        have lg := (hownL.lt g rfl).2
        have hc0 := hownL.cellAt r.length (by simp)
        rw [ints_at] at hc0
        have hf0 := hownL.frozenAt r.length
        have hst := hownL.stored r.length (.int .i64 (a - 1))
        rw [ints_set] at hst
        have HLf := hidG (hst.1.alloc (.cells #[.int .i64 nd.kind, .string nd.text, .int .i64 nd.kids, .int .i64 q] 67))
        have HOo : Hid (((wr.setCell ⟨g, r.length, none⟩ (.int .i64 (a - 1))).alloc (.cells #[.int .i64 nd.kind, .string nd.text, .int .i64 nd.kids, .int .i64 q] 67)).ownsRow w.heap.size 5 1 (.slice (some ⟨go, 0, none⟩) (p.length + 1) co) (p.length + 1) (Lib.byteCells (p ++ [lb]))) := (own_set hown' (fun e => hgo (Option.some.inj e).symm) _ _).alloc _
        have HBX : Hid (((wr.setCell ⟨g, r.length, none⟩ (.int .i64 (a - 1))).alloc (.cells #[.int .i64 nd.kind, .string nd.text, .int .i64 nd.kids, .int .i64 q] 67)).heap[wr.heap.size]? = some (Obj.cells #[.int .i64 nd.kind, .string nd.text, .int .i64 nd.kids, .int .i64 q] 67 (0, 0))) := by
          have := Array.getElem?_push_size (xs := (wr.setCell ⟨g, r.length, none⟩ (.int .i64 (a - 1))).heap) (x := Obj.cells #[.int .i64 nd.kind, .string nd.text, .int .i64 nd.kids, .int .i64 q] 67 (0, 0))
          rw [show (wr.setCell ⟨g, r.length, none⟩ (.int .i64 (a - 1))).heap.size = wr.heap.size by simp] at this
          exact this
        have HBw : Hid (Below w.heap.size w ((wr.setCell ⟨g, r.length, none⟩ (.int .i64 (a - 1))).alloc (.cells #[.int .i64 nd.kind, .string nd.text, .int .i64 nd.kids, .int .i64 q] 67))) := ((hB.setCell (p := ⟨g, r.length, none⟩) (hownL.lt g rfl).1 _)).alloc (by simpa using hwsz) _
        have HAC := hidG hacc
        have hapl : p.length + 1 ≤ acc.length := by rw [hacc]; simp
        have hL0' := hLr
        clear hown hown' hownL hB hst hL0
        have hL0 := hL0'
        clear hL0' hLr hacc
        by_cases hlb : lb = 40
        · have HSP2 : Hid (sep = []) := by unfold Hid; rw [← HSEP.out, hbf, hlb]; simp
          have y0 : ((lb.toNat : Int) != 40) = false := by rw [hlb]; rfl
          clear hbf hlb
          by_cases hk1 : nd.kind = 1
          · have HK := hidG hk1
            have HTE : Hid (tokT nd.kind nd.t = [40]) := by unfold Hid; rw [hk1]; rfl
            have y1 : (nd.kind == 1) = true := by rw [beq_iff_eq]; exact hk1
            clear hk1
            have HPS : Hid (popZ (nd.kids :: (a - 1) :: r) = S) := by unfold Hid; rw [← HSS.out]; simp [stepL, pushL, HK.out, hL0, decL]
            have HML : Hid (0 + ((nd.kids :: (a - 1) :: r) : List Int).length = ML) := by unfold Hid; rw [← HPM.out]; simp [pushL, HK.out, hL0, decL]
            clear hL0
            go_wp2_with (first | (at_builtin; refine wpList_appI rfl _ _ rfl rfl HLf.out _ rfl (by simp) (by omega) HBw.out.size ?_; intro g3 c3 W3 hown3 hgr3; have hbx := box_app hgr3 HLf.out HBX.out (by decide); have HOo := hidG (own_apart (HLf.out.alloc _) (HOo.out.alloc _) (by decide) hgr3); have HBX := hidG hbx; have HBw : Hid (Below w.heap.size w W3) := ((HBw.out.alloc HBw.out.size _).grown hgr3 (by have := HBw.out.size; simp; omega) (fun k e => (HLf.out.lt k e).1)); have HLf := hidG hown3; obtain ⟨c0, c1, c2, c4⟩ := cells_of hbx; clear hbx hown3 hgr3) | (at_builtin; refine wpList_appB rfl _ _ rfl rfl HOo.out _ rfl (by simp) (by omega) HBw.out.size ?_; intro g3 c3 W3 hown3 hgr3; have hbx := box_app hgr3 HOo.out HBX.out (by decide); have HLf := hidG (own_apart (HOo.out.alloc _) (HLf.out.alloc _) (by decide) hgr3); have HBX := hidG hbx; have HBw : Hid (Below w.heap.size w W3) := ((HBw.out.alloc HBw.out.size _).grown hgr3 (by have := HBw.out.size; simp; omega) (fun k e => (HOo.out.lt k e).1)); have HOo := hidG hown3; obtain ⟨c0, c1, c2, c4⟩ := cells_of hbx; clear hbx hown3 hgr3))
            have HO2 := hidG (own_to HOo.out (ys := Lib.byteCells A2) (by rw [← HA2.out, HTE.out, HSP2.out, HAC.out]; simp [Lib.byteCells]) (Lib.byteCells_length A2))
            have HL2 := hidG (own_to HLf.out (ys := ints (nd.kids :: (a - 1) :: r)) (by simp [ints]) (ints_len _))
            have HB2 := HBw
            go_loopw [3, 4] (fun vo vl wq => ∃ (i : Nat) (M : List Int), popZ M = S ∧ i + M.length = ML ∧ wq.ownsRow w.heap.size 5 1 vo (A2.length + i) (Lib.byteCells (A2 ++ List.replicate i 41)) ∧ wq.ownsRow w.heap.size 3 1 vl M.length (ints M) ∧ Below w.heap.size w wq) (fun _ vl _ => lenV vl)
            case atStart => exact ⟨0, _, HPS.out, HML.out, by rw [List.replicate_zero, List.append_nil]; exact HO2.out, HL2.out, HB2.out⟩
            case round =>
              obtain ⟨i, M, hM, hiM, hown, hownM, hB⟩ := hrel
              have HOo := hidG hown
              have HOM := hidG hownM
              have HBw := hidG hB
              have hi2 : i ≤ 201 := by omega
              rcases M with _ | ⟨m, M⟩
              · obtain ⟨p, cp, rfl⟩ := own_shape hownM
                have HS : Hid (S = []) := hM.symm
                have HCL : Hid (closedL nd L = i) := by
                  show (pushL nd L).length - (stepL nd L).length = i
                  rw [HSS.out, HS.out, HPM.out]
                  simp at hiM ⊢
                  omega
                clear hM hown hownM hB hiM
                go_wp2_with (first | (at_builtin; refine wpList_appB rfl _ _ rfl rfl HOo.out _ rfl rfl (by omega) HBw.out.size ?_; intro g3 c3 W3 hown3 hgr3; have HLf := hidG (own_apart (HOo.out.alloc _) (HOM.out.alloc _) (by decide) hgr3); have HB3 : Hid (Below w.heap.size w W3) := (HBw.out.alloc HBw.out.size _).grown hgr3 (by have := HBw.out.size; simp; omega) (fun k e => (HOo.out.lt k e).1); have HO3 := hidG hown3; clear hown3 hgr3))
                go_roundw
                case rel =>
                  refine ⟨j + 1, zz + nd.text.size, A2 ++ List.replicate i 41 ++ [10], S, decide (nd.kind = 1) && decide (closedL nd L = 0), by omega, by omega, by go_num, HSL.out, HSP.out, HFS.out, ?_, ?_, ?_, ?_, ?_, HB3.out⟩
                  · rw [← HRR.out, ← HA2.out]
                    simp only [rowS, HCL.out, HSS.out, HS.out, HSEP.out, List.append_assoc]
                    rfl
                  · simp; omega
                  · intro h; exact absurd HS.out h
                  · exact own_to HO3.out (byteCells_snoc _ 10) (Lib.byteCells_length _)
                  · rw [HS.out]; exact HLf.out
                case measure => simp [intOf]; omega
              · obtain ⟨gm, cm, rfl⟩ := ownsRow_succ hownM
                have hcm := hownM.cellAt M.length (by simp)
                rw [ints_at] at hcm
                have hcap := own_cap hownM
                have hgm := (hownM.lt gm rfl).2
                have hMl : M.length + 1 ≤ 201 := by have h3 : i + (M.length + 1) = ML := hiM; omega
                by_cases hm0 : m = 0
                · subst hm0
                  have HM2 : Hid (popZ M = S) := by have := hM; simp only [popZ, if_true] at this; exact this
                  have hiM2 : i + (M.length + 1) = ML := hiM
                  clear hM hown hownM hB hiM
                  go_wp2_with (first | (at_builtin; refine wpList_appB rfl _ _ rfl rfl HOo.out _ rfl rfl (by omega) HBw.out.size ?_; intro g3 c3 W3 hown3 hgr3; have HLf := hidG (own_apart (HOo.out.alloc _) (HOM.out.alloc _) (by decide) hgr3); have HB3 : Hid (Below w.heap.size w W3) := (HBw.out.alloc HBw.out.size _).grown hgr3 (by have := HBw.out.size; simp; omega) (fun k e => (HOo.out.lt k e).1); have HO3 := hidG hown3; clear hown3 hgr3))
                  go_roundw
                  case rel =>
                    refine ⟨i + 1, M, HM2.out, by omega, ?_, ?_, HB3.out⟩
                    · have := HO3.out
                      rw [show Lib.byteCells (A2 ++ List.replicate i 41) ++ [Value.int .u8 41] = Lib.byteCells (A2 ++ List.replicate i 41 ++ [41]) from byteCells_snoc _ 41, List.append_assoc, ← List.replicate_succ'] at this
                      exact this
                    · exact ownsRow_pop (size := 1) (n := M.length) (xs := ints M) (last := [.int .i64 0]) (by rw [ints_len]; omega) (by rw [← ints_cons]; exact HLf.out)
                  case measure => simp [lenV]
                · have hm1 : (m == 0) = false := by rw [beq_eq_false_iff_ne]; exact hm0
                  have hm2 : (((M.length : Int) + 1) == 0) = false := by rw [beq_eq_false_iff_ne]; omega
                  have HS : Hid (S = m :: M) := by have := hM; simp only [popZ, if_neg hm0] at this; exact this.symm
                  have HCL : Hid (closedL nd L = i) := by
                    show (pushL nd L).length - (stepL nd L).length = i
                    rw [HSS.out, HS.out, HPM.out]
                    simp at hiM ⊢
                    omega
                  clear hM hown hownM hB hm0 hiM
                  go_wp2_with fail
                  go_roundw
                  case rel =>
                    refine ⟨j + 1, zz + nd.text.size, A2 ++ List.replicate i 41, S, decide (nd.kind = 1) && decide (closedL nd L = 0), by omega, by omega, by go_num, HSL.out, HSP.out, HFS.out, ?_, ?_, ?_, ?_, ?_, HBw.out⟩
                    · rw [← HRR.out, ← HA2.out]
                      simp only [rowS, HCL.out, HSS.out, HS.out, HSEP.out, List.append_assoc, List.isEmpty_cons, Bool.false_eq_true, if_false, List.nil_append]
                    · simp; omega
                    · intro _; exact last_row HEN.out HCL.out
                    · exact own_to HOo.out rfl (Lib.byteCells_length _)
                    · rw [HS.out]; exact HOM.out
                  case measure => simp [intOf]; omega
          · have HK : Hid (¬ nd.kind = 1) := hk1
            have HK1 : Hid (nd.kind ≠ 1) := hk1
            have y1 : (nd.kind == 1) = false := by rw [beq_eq_false_iff_ne]; exact hk1
            clear hk1
            have HPS : Hid (popZ ((a - 1) :: r) = S) := by unfold Hid; rw [← HSS.out]; simp [stepL, pushL, HK.out, hL0, decL]
            have HML : Hid (0 + (((a - 1) :: r) : List Int).length = ML) := by unfold Hid; rw [← HPM.out]; simp [pushL, HK.out, hL0, decL]
            clear hL0
            go_wp2_with (first | (go_at_call 24; refine (l3Written_any nd q _ (by omega) HNO.out HK1.out).mono ?_; rintro e w1 ⟨rfl, hb1⟩; rw [HTK.out]; have HOo := hidG (own_below HOo.out hb1); have HLf := hidG (own_below HLf.out hb1); have HBw : Hid (Below w.heap.size w w1) := HBw.out.trans (hb1.mono HBw.out.size); clear hb1) | (at_builtin; refine wpList_appS rfl _ _ rfl rfl HOo.out rfl (by omega) (by omega) HBw.out.size ?_; intro v3 W3 hown3 hgr3; have HLf := hidG (own_apart HOo.out HLf.out (by decide) hgr3); have HBw : Hid (Below w.heap.size w W3) := (HBw.out.grown hgr3 HBw.out.size (fun k e => (HOo.out.lt k e).1)); have HOo := hidG hown3; clear hown3 hgr3) | (at_builtin; refine wpList_appB rfl _ _ rfl rfl HOo.out _ rfl (by simp) (by omega) HBw.out.size ?_; intro g3 c3 W3 hown3 hgr3; have hbx := box_app hgr3 HOo.out HBX.out (by decide); have HLf := hidG (own_apart (HOo.out.alloc _) (HLf.out.alloc _) (by decide) hgr3); have HBX := hidG hbx; have HBw : Hid (Below w.heap.size w W3) := ((HBw.out.alloc HBw.out.size _).grown hgr3 (by have := HBw.out.size; simp; omega) (fun k e => (HOo.out.lt k e).1)); have HOo := hidG hown3; obtain ⟨c0, c1, c2, c4⟩ := cells_of hbx; clear hbx hown3 hgr3))
            have HO2 := hidG (own_to HOo.out (ys := Lib.byteCells A2) (by rw [← HA2.out, ← HTL.out, HSP2.out, HAC.out, Lib.strCells_eq]; simp [Lib.byteCells]) (Lib.byteCells_length A2))
            have HL2 := hidG (own_to HLf.out (ys := ints ((a - 1) :: r)) (by rfl) (ints_len _))
            have HB2 := HBw
            go_loopw [3, 4] (fun vo vl wq => ∃ (i : Nat) (M : List Int), popZ M = S ∧ i + M.length = ML ∧ wq.ownsRow w.heap.size 5 1 vo (A2.length + i) (Lib.byteCells (A2 ++ List.replicate i 41)) ∧ wq.ownsRow w.heap.size 3 1 vl M.length (ints M) ∧ Below w.heap.size w wq) (fun _ vl _ => lenV vl)
            case atStart => exact ⟨0, _, HPS.out, HML.out, by rw [List.replicate_zero, List.append_nil]; exact HO2.out, HL2.out, HB2.out⟩
            case round =>
              obtain ⟨i, M, hM, hiM, hown, hownM, hB⟩ := hrel
              have HOo := hidG hown
              have HOM := hidG hownM
              have HBw := hidG hB
              have hi2 : i ≤ 201 := by omega
              rcases M with _ | ⟨m, M⟩
              · obtain ⟨p, cp, rfl⟩ := own_shape hownM
                have HS : Hid (S = []) := hM.symm
                have HCL : Hid (closedL nd L = i) := by
                  show (pushL nd L).length - (stepL nd L).length = i
                  rw [HSS.out, HS.out, HPM.out]
                  simp at hiM ⊢
                  omega
                clear hM hown hownM hB hiM
                go_wp2_with (first | (at_builtin; refine wpList_appB rfl _ _ rfl rfl HOo.out _ rfl rfl (by omega) HBw.out.size ?_; intro g3 c3 W3 hown3 hgr3; have HLf := hidG (own_apart (HOo.out.alloc _) (HOM.out.alloc _) (by decide) hgr3); have HB3 : Hid (Below w.heap.size w W3) := (HBw.out.alloc HBw.out.size _).grown hgr3 (by have := HBw.out.size; simp; omega) (fun k e => (HOo.out.lt k e).1); have HO3 := hidG hown3; clear hown3 hgr3))
                go_roundw
                case rel =>
                  refine ⟨j + 1, zz + nd.text.size, A2 ++ List.replicate i 41 ++ [10], S, decide (nd.kind = 1) && decide (closedL nd L = 0), by omega, by omega, by go_num, HSL.out, HSP.out, HFS.out, ?_, ?_, ?_, ?_, ?_, HB3.out⟩
                  · rw [← HRR.out, ← HA2.out]
                    simp only [rowS, HCL.out, HSS.out, HS.out, HSEP.out, List.append_assoc]
                    rfl
                  · simp; omega
                  · intro h; exact absurd HS.out h
                  · exact own_to HO3.out (byteCells_snoc _ 10) (Lib.byteCells_length _)
                  · rw [HS.out]; exact HLf.out
                case measure => simp [intOf]; omega
              · obtain ⟨gm, cm, rfl⟩ := ownsRow_succ hownM
                have hcm := hownM.cellAt M.length (by simp)
                rw [ints_at] at hcm
                have hcap := own_cap hownM
                have hgm := (hownM.lt gm rfl).2
                have hMl : M.length + 1 ≤ 201 := by have h3 : i + (M.length + 1) = ML := hiM; omega
                by_cases hm0 : m = 0
                · subst hm0
                  have HM2 : Hid (popZ M = S) := by have := hM; simp only [popZ, if_true] at this; exact this
                  have hiM2 : i + (M.length + 1) = ML := hiM
                  clear hM hown hownM hB hiM
                  go_wp2_with (first | (at_builtin; refine wpList_appB rfl _ _ rfl rfl HOo.out _ rfl rfl (by omega) HBw.out.size ?_; intro g3 c3 W3 hown3 hgr3; have HLf := hidG (own_apart (HOo.out.alloc _) (HOM.out.alloc _) (by decide) hgr3); have HB3 : Hid (Below w.heap.size w W3) := (HBw.out.alloc HBw.out.size _).grown hgr3 (by have := HBw.out.size; simp; omega) (fun k e => (HOo.out.lt k e).1); have HO3 := hidG hown3; clear hown3 hgr3))
                  go_roundw
                  case rel =>
                    refine ⟨i + 1, M, HM2.out, by omega, ?_, ?_, HB3.out⟩
                    · have := HO3.out
                      rw [show Lib.byteCells (A2 ++ List.replicate i 41) ++ [Value.int .u8 41] = Lib.byteCells (A2 ++ List.replicate i 41 ++ [41]) from byteCells_snoc _ 41, List.append_assoc, ← List.replicate_succ'] at this
                      exact this
                    · exact ownsRow_pop (size := 1) (n := M.length) (xs := ints M) (last := [.int .i64 0]) (by rw [ints_len]; omega) (by rw [← ints_cons]; exact HLf.out)
                  case measure => simp [lenV]
                · have hm1 : (m == 0) = false := by rw [beq_eq_false_iff_ne]; exact hm0
                  have hm2 : (((M.length : Int) + 1) == 0) = false := by rw [beq_eq_false_iff_ne]; omega
                  have HS : Hid (S = m :: M) := by have := hM; simp only [popZ, if_neg hm0] at this; exact this.symm
                  have HCL : Hid (closedL nd L = i) := by
                    show (pushL nd L).length - (stepL nd L).length = i
                    rw [HSS.out, HS.out, HPM.out]
                    simp at hiM ⊢
                    omega
                  clear hM hown hownM hB hm0 hiM
                  go_wp2_with fail
                  go_roundw
                  case rel =>
                    refine ⟨j + 1, zz + nd.text.size, A2 ++ List.replicate i 41, S, decide (nd.kind = 1) && decide (closedL nd L = 0), by omega, by omega, by go_num, HSL.out, HSP.out, HFS.out, ?_, ?_, ?_, ?_, ?_, HBw.out⟩
                    · rw [← HRR.out, ← HA2.out]
                      simp only [rowS, HCL.out, HSS.out, HS.out, HSEP.out, List.append_assoc, List.isEmpty_cons, Bool.false_eq_true, if_false, List.nil_append]
                    · simp; omega
                    · intro _; exact last_row HEN.out HCL.out
                    · exact own_to HOo.out rfl (Lib.byteCells_length _)
                    · rw [HS.out]; exact HOM.out
                  case measure => simp [intOf]; omega
        · have HSP2 : Hid (sep = [32]) := by unfold Hid; rw [← HSEP.out, hbf, hL0, decide_eq_false hlb]; rfl
          have y0 : ((lb.toNat : Int) != 40) = true := by
            rw [bne_iff_ne]; intro e
            exact hlb (UInt8.toNat_inj.1 (by have e2 : (40 : UInt8).toNat = 40 := rfl; omega))
          clear hbf hlb
          by_cases hk1 : nd.kind = 1
          · have HK := hidG hk1
            have HTE : Hid (tokT nd.kind nd.t = [40]) := by unfold Hid; rw [hk1]; rfl
            have y1 : (nd.kind == 1) = true := by rw [beq_iff_eq]; exact hk1
            clear hk1
            have HPS : Hid (popZ (nd.kids :: (a - 1) :: r) = S) := by unfold Hid; rw [← HSS.out]; simp [stepL, pushL, HK.out, hL0, decL]
            have HML : Hid (0 + ((nd.kids :: (a - 1) :: r) : List Int).length = ML) := by unfold Hid; rw [← HPM.out]; simp [pushL, HK.out, hL0, decL]
            clear hL0
            go_wp2_with (first | (at_builtin; refine wpList_appI rfl _ _ rfl rfl HLf.out _ rfl (by simp) (by omega) HBw.out.size ?_; intro g3 c3 W3 hown3 hgr3; have hbx := box_app hgr3 HLf.out HBX.out (by decide); have HOo := hidG (own_apart (HLf.out.alloc _) (HOo.out.alloc _) (by decide) hgr3); have HBX := hidG hbx; have HBw : Hid (Below w.heap.size w W3) := ((HBw.out.alloc HBw.out.size _).grown hgr3 (by have := HBw.out.size; simp; omega) (fun k e => (HLf.out.lt k e).1)); have HLf := hidG hown3; obtain ⟨c0, c1, c2, c4⟩ := cells_of hbx; clear hbx hown3 hgr3) | (at_builtin; refine wpList_appB rfl _ _ rfl rfl HOo.out _ rfl (by simp) (by omega) HBw.out.size ?_; intro g3 c3 W3 hown3 hgr3; have hbx := box_app hgr3 HOo.out HBX.out (by decide); have HLf := hidG (own_apart (HOo.out.alloc _) (HLf.out.alloc _) (by decide) hgr3); have HBX := hidG hbx; have HBw : Hid (Below w.heap.size w W3) := ((HBw.out.alloc HBw.out.size _).grown hgr3 (by have := HBw.out.size; simp; omega) (fun k e => (HOo.out.lt k e).1)); have HOo := hidG hown3; obtain ⟨c0, c1, c2, c4⟩ := cells_of hbx; clear hbx hown3 hgr3))
            have HO2 := hidG (own_to HOo.out (ys := Lib.byteCells A2) (by rw [← HA2.out, HTE.out, HSP2.out, HAC.out]; simp [Lib.byteCells]) (Lib.byteCells_length A2))
            have HL2 := hidG (own_to HLf.out (ys := ints (nd.kids :: (a - 1) :: r)) (by simp [ints]) (ints_len _))
            have HB2 := HBw
            go_loopw [3, 4] (fun vo vl wq => ∃ (i : Nat) (M : List Int), popZ M = S ∧ i + M.length = ML ∧ wq.ownsRow w.heap.size 5 1 vo (A2.length + i) (Lib.byteCells (A2 ++ List.replicate i 41)) ∧ wq.ownsRow w.heap.size 3 1 vl M.length (ints M) ∧ Below w.heap.size w wq) (fun _ vl _ => lenV vl)
            case atStart => exact ⟨0, _, HPS.out, HML.out, by rw [List.replicate_zero, List.append_nil]; exact HO2.out, HL2.out, HB2.out⟩
            case round =>
              obtain ⟨i, M, hM, hiM, hown, hownM, hB⟩ := hrel
              have HOo := hidG hown
              have HOM := hidG hownM
              have HBw := hidG hB
              have hi2 : i ≤ 201 := by omega
              rcases M with _ | ⟨m, M⟩
              · obtain ⟨p, cp, rfl⟩ := own_shape hownM
                have HS : Hid (S = []) := hM.symm
                have HCL : Hid (closedL nd L = i) := by
                  show (pushL nd L).length - (stepL nd L).length = i
                  rw [HSS.out, HS.out, HPM.out]
                  simp at hiM ⊢
                  omega
                clear hM hown hownM hB hiM
                go_wp2_with (first | (at_builtin; refine wpList_appB rfl _ _ rfl rfl HOo.out _ rfl rfl (by omega) HBw.out.size ?_; intro g3 c3 W3 hown3 hgr3; have HLf := hidG (own_apart (HOo.out.alloc _) (HOM.out.alloc _) (by decide) hgr3); have HB3 : Hid (Below w.heap.size w W3) := (HBw.out.alloc HBw.out.size _).grown hgr3 (by have := HBw.out.size; simp; omega) (fun k e => (HOo.out.lt k e).1); have HO3 := hidG hown3; clear hown3 hgr3))
                go_roundw
                case rel =>
                  refine ⟨j + 1, zz + nd.text.size, A2 ++ List.replicate i 41 ++ [10], S, decide (nd.kind = 1) && decide (closedL nd L = 0), by omega, by omega, by go_num, HSL.out, HSP.out, HFS.out, ?_, ?_, ?_, ?_, ?_, HB3.out⟩
                  · rw [← HRR.out, ← HA2.out]
                    simp only [rowS, HCL.out, HSS.out, HS.out, HSEP.out, List.append_assoc]
                    rfl
                  · simp; omega
                  · intro h; exact absurd HS.out h
                  · exact own_to HO3.out (byteCells_snoc _ 10) (Lib.byteCells_length _)
                  · rw [HS.out]; exact HLf.out
                case measure => simp [intOf]; omega
              · obtain ⟨gm, cm, rfl⟩ := ownsRow_succ hownM
                have hcm := hownM.cellAt M.length (by simp)
                rw [ints_at] at hcm
                have hcap := own_cap hownM
                have hgm := (hownM.lt gm rfl).2
                have hMl : M.length + 1 ≤ 201 := by have h3 : i + (M.length + 1) = ML := hiM; omega
                by_cases hm0 : m = 0
                · subst hm0
                  have HM2 : Hid (popZ M = S) := by have := hM; simp only [popZ, if_true] at this; exact this
                  have hiM2 : i + (M.length + 1) = ML := hiM
                  clear hM hown hownM hB hiM
                  go_wp2_with (first | (at_builtin; refine wpList_appB rfl _ _ rfl rfl HOo.out _ rfl rfl (by omega) HBw.out.size ?_; intro g3 c3 W3 hown3 hgr3; have HLf := hidG (own_apart (HOo.out.alloc _) (HOM.out.alloc _) (by decide) hgr3); have HB3 : Hid (Below w.heap.size w W3) := (HBw.out.alloc HBw.out.size _).grown hgr3 (by have := HBw.out.size; simp; omega) (fun k e => (HOo.out.lt k e).1); have HO3 := hidG hown3; clear hown3 hgr3))
                  go_roundw
                  case rel =>
                    refine ⟨i + 1, M, HM2.out, by omega, ?_, ?_, HB3.out⟩
                    · have := HO3.out
                      rw [show Lib.byteCells (A2 ++ List.replicate i 41) ++ [Value.int .u8 41] = Lib.byteCells (A2 ++ List.replicate i 41 ++ [41]) from byteCells_snoc _ 41, List.append_assoc, ← List.replicate_succ'] at this
                      exact this
                    · exact ownsRow_pop (size := 1) (n := M.length) (xs := ints M) (last := [.int .i64 0]) (by rw [ints_len]; omega) (by rw [← ints_cons]; exact HLf.out)
                  case measure => simp [lenV]
                · have hm1 : (m == 0) = false := by rw [beq_eq_false_iff_ne]; exact hm0
                  have hm2 : (((M.length : Int) + 1) == 0) = false := by rw [beq_eq_false_iff_ne]; omega
                  have HS : Hid (S = m :: M) := by have := hM; simp only [popZ, if_neg hm0] at this; exact this.symm
                  have HCL : Hid (closedL nd L = i) := by
                    show (pushL nd L).length - (stepL nd L).length = i
                    rw [HSS.out, HS.out, HPM.out]
                    simp at hiM ⊢
                    omega
                  clear hM hown hownM hB hm0 hiM
                  go_wp2_with fail
                  go_roundw
                  case rel =>
                    refine ⟨j + 1, zz + nd.text.size, A2 ++ List.replicate i 41, S, decide (nd.kind = 1) && decide (closedL nd L = 0), by omega, by omega, by go_num, HSL.out, HSP.out, HFS.out, ?_, ?_, ?_, ?_, ?_, HBw.out⟩
                    · rw [← HRR.out, ← HA2.out]
                      simp only [rowS, HCL.out, HSS.out, HS.out, HSEP.out, List.append_assoc, List.isEmpty_cons, Bool.false_eq_true, if_false, List.nil_append]
                    · simp; omega
                    · intro _; exact last_row HEN.out HCL.out
                    · exact own_to HOo.out rfl (Lib.byteCells_length _)
                    · rw [HS.out]; exact HOM.out
                  case measure => simp [intOf]; omega
          · have HK : Hid (¬ nd.kind = 1) := hk1
            have HK1 : Hid (nd.kind ≠ 1) := hk1
            have y1 : (nd.kind == 1) = false := by rw [beq_eq_false_iff_ne]; exact hk1
            clear hk1
            have HPS : Hid (popZ ((a - 1) :: r) = S) := by unfold Hid; rw [← HSS.out]; simp [stepL, pushL, HK.out, hL0, decL]
            have HML : Hid (0 + (((a - 1) :: r) : List Int).length = ML) := by unfold Hid; rw [← HPM.out]; simp [pushL, HK.out, hL0, decL]
            clear hL0
            go_wp2_with (first | (go_at_call 24; refine (l3Written_any nd q _ (by omega) HNO.out HK1.out).mono ?_; rintro e w1 ⟨rfl, hb1⟩; rw [HTK.out]; have HOo := hidG (own_below HOo.out hb1); have HLf := hidG (own_below HLf.out hb1); have HBw : Hid (Below w.heap.size w w1) := HBw.out.trans (hb1.mono HBw.out.size); clear hb1) | (at_builtin; refine wpList_appS rfl _ _ rfl rfl HOo.out rfl (by omega) (by omega) HBw.out.size ?_; intro v3 W3 hown3 hgr3; have HLf := hidG (own_apart HOo.out HLf.out (by decide) hgr3); have HBw : Hid (Below w.heap.size w W3) := (HBw.out.grown hgr3 HBw.out.size (fun k e => (HOo.out.lt k e).1)); have HOo := hidG hown3; clear hown3 hgr3) | (at_builtin; refine wpList_appB rfl _ _ rfl rfl HOo.out _ rfl (by simp) (by omega) HBw.out.size ?_; intro g3 c3 W3 hown3 hgr3; have hbx := box_app hgr3 HOo.out HBX.out (by decide); have HLf := hidG (own_apart (HOo.out.alloc _) (HLf.out.alloc _) (by decide) hgr3); have HBX := hidG hbx; have HBw : Hid (Below w.heap.size w W3) := ((HBw.out.alloc HBw.out.size _).grown hgr3 (by have := HBw.out.size; simp; omega) (fun k e => (HOo.out.lt k e).1)); have HOo := hidG hown3; obtain ⟨c0, c1, c2, c4⟩ := cells_of hbx; clear hbx hown3 hgr3))
            have HO2 := hidG (own_to HOo.out (ys := Lib.byteCells A2) (by rw [← HA2.out, ← HTL.out, HSP2.out, HAC.out, Lib.strCells_eq]; simp [Lib.byteCells]) (Lib.byteCells_length A2))
            have HL2 := hidG (own_to HLf.out (ys := ints ((a - 1) :: r)) (by rfl) (ints_len _))
            have HB2 := HBw
            go_loopw [3, 4] (fun vo vl wq => ∃ (i : Nat) (M : List Int), popZ M = S ∧ i + M.length = ML ∧ wq.ownsRow w.heap.size 5 1 vo (A2.length + i) (Lib.byteCells (A2 ++ List.replicate i 41)) ∧ wq.ownsRow w.heap.size 3 1 vl M.length (ints M) ∧ Below w.heap.size w wq) (fun _ vl _ => lenV vl)
            case atStart => exact ⟨0, _, HPS.out, HML.out, by rw [List.replicate_zero, List.append_nil]; exact HO2.out, HL2.out, HB2.out⟩
            case round =>
              obtain ⟨i, M, hM, hiM, hown, hownM, hB⟩ := hrel
              have HOo := hidG hown
              have HOM := hidG hownM
              have HBw := hidG hB
              have hi2 : i ≤ 201 := by omega
              rcases M with _ | ⟨m, M⟩
              · obtain ⟨p, cp, rfl⟩ := own_shape hownM
                have HS : Hid (S = []) := hM.symm
                have HCL : Hid (closedL nd L = i) := by
                  show (pushL nd L).length - (stepL nd L).length = i
                  rw [HSS.out, HS.out, HPM.out]
                  simp at hiM ⊢
                  omega
                clear hM hown hownM hB hiM
                go_wp2_with (first | (at_builtin; refine wpList_appB rfl _ _ rfl rfl HOo.out _ rfl rfl (by omega) HBw.out.size ?_; intro g3 c3 W3 hown3 hgr3; have HLf := hidG (own_apart (HOo.out.alloc _) (HOM.out.alloc _) (by decide) hgr3); have HB3 : Hid (Below w.heap.size w W3) := (HBw.out.alloc HBw.out.size _).grown hgr3 (by have := HBw.out.size; simp; omega) (fun k e => (HOo.out.lt k e).1); have HO3 := hidG hown3; clear hown3 hgr3))
                go_roundw
                case rel =>
                  refine ⟨j + 1, zz + nd.text.size, A2 ++ List.replicate i 41 ++ [10], S, decide (nd.kind = 1) && decide (closedL nd L = 0), by omega, by omega, by go_num, HSL.out, HSP.out, HFS.out, ?_, ?_, ?_, ?_, ?_, HB3.out⟩
                  · rw [← HRR.out, ← HA2.out]
                    simp only [rowS, HCL.out, HSS.out, HS.out, HSEP.out, List.append_assoc]
                    rfl
                  · simp; omega
                  · intro h; exact absurd HS.out h
                  · exact own_to HO3.out (byteCells_snoc _ 10) (Lib.byteCells_length _)
                  · rw [HS.out]; exact HLf.out
                case measure => simp [intOf]; omega
              · obtain ⟨gm, cm, rfl⟩ := ownsRow_succ hownM
                have hcm := hownM.cellAt M.length (by simp)
                rw [ints_at] at hcm
                have hcap := own_cap hownM
                have hgm := (hownM.lt gm rfl).2
                have hMl : M.length + 1 ≤ 201 := by have h3 : i + (M.length + 1) = ML := hiM; omega
                by_cases hm0 : m = 0
                · subst hm0
                  have HM2 : Hid (popZ M = S) := by have := hM; simp only [popZ, if_true] at this; exact this
                  have hiM2 : i + (M.length + 1) = ML := hiM
                  clear hM hown hownM hB hiM
                  go_wp2_with (first | (at_builtin; refine wpList_appB rfl _ _ rfl rfl HOo.out _ rfl rfl (by omega) HBw.out.size ?_; intro g3 c3 W3 hown3 hgr3; have HLf := hidG (own_apart (HOo.out.alloc _) (HOM.out.alloc _) (by decide) hgr3); have HB3 : Hid (Below w.heap.size w W3) := (HBw.out.alloc HBw.out.size _).grown hgr3 (by have := HBw.out.size; simp; omega) (fun k e => (HOo.out.lt k e).1); have HO3 := hidG hown3; clear hown3 hgr3))
                  go_roundw
                  case rel =>
                    refine ⟨i + 1, M, HM2.out, by omega, ?_, ?_, HB3.out⟩
                    · have := HO3.out
                      rw [show Lib.byteCells (A2 ++ List.replicate i 41) ++ [Value.int .u8 41] = Lib.byteCells (A2 ++ List.replicate i 41 ++ [41]) from byteCells_snoc _ 41, List.append_assoc, ← List.replicate_succ'] at this
                      exact this
                    · exact ownsRow_pop (size := 1) (n := M.length) (xs := ints M) (last := [.int .i64 0]) (by rw [ints_len]; omega) (by rw [← ints_cons]; exact HLf.out)
                  case measure => simp [lenV]
                · have hm1 : (m == 0) = false := by rw [beq_eq_false_iff_ne]; exact hm0
                  have hm2 : (((M.length : Int) + 1) == 0) = false := by rw [beq_eq_false_iff_ne]; omega
                  have HS : Hid (S = m :: M) := by have := hM; simp only [popZ, if_neg hm0] at this; exact this.symm
                  have HCL : Hid (closedL nd L = i) := by
                    show (pushL nd L).length - (stepL nd L).length = i
                    rw [HSS.out, HS.out, HPM.out]
                    simp at hiM ⊢
                    omega
                  clear hM hown hownM hB hm0 hiM
                  go_wp2_with fail
                  go_roundw
                  case rel =>
                    refine ⟨j + 1, zz + nd.text.size, A2 ++ List.replicate i 41, S, decide (nd.kind = 1) && decide (closedL nd L = 0), by omega, by omega, by go_num, HSL.out, HSP.out, HFS.out, ?_, ?_, ?_, ?_, ?_, HBw.out⟩
                    · rw [← HRR.out, ← HA2.out]
                      simp only [rowS, HCL.out, HSS.out, HS.out, HSEP.out, List.append_assoc, List.isEmpty_cons, Bool.false_eq_true, if_false, List.nil_append]
                    · simp; omega
                    · intro _; exact last_row HEN.out HCL.out
                    · exact own_to HOo.out rfl (Lib.byteCells_length _)
                    · rw [HS.out]; exact HOM.out
                  case measure => simp [intOf]; omega
    · have hje : j = ns.length := by omega
      rw [hje, List.drop_of_length_le (by simp), show rowS [] L bf = [] from rfl, List.append_nil] at hrr
      have HRR := hidG hrr
      obtain ⟨po, co, rfl⟩ := own_shape hown
      clear hrr hje hf
      have hcv := conv_any hown
      go_wp2_with fail
      go_ret
      exact ⟨by rw [← HRR.out]; rfl, HB.out⟩
end Go.Proofs.YtdphpfffofeklaaDoor.T

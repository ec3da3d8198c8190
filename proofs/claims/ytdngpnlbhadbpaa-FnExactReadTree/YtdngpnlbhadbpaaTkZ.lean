import Derived.Test.YtdngpnlbhadbpaaTkY
namespace Go.Proofs.Ytdngpnlbhadbpaa
open Go.ChangeShapes Go.WideShapes Go.ChangeAt Go.RowKit
set_option maxRecDepth 100000 in
set_option maxHeartbeats 1000000 in
theorem l3Blank_ex (c : UInt8) (w : World) :
    Calls Try.prog 9 #[.int .u8 (c.toNat : Int)] w fun e w' => e = .returned (.bool (blankB c)) ∧ w' = w := by
  obtain ⟨n, hn⟩ : ∃ n : Nat, c.toNat = n := ⟨_, rfl⟩
  have HF : Hid (blankB c = (((n : Int) == 32) || ((n : Int) == 9) || ((n : Int) == 10) || ((n : Int) == 13))) := by
    unfold Hid blankB; rw [hn]
    have e : ∀ m : Nat, decide (n = m) = ((n : Int) == (m : Int)) := fun m => by
      by_cases h : n = m
      · subst h; simp
      · rw [decide_eq_false h]; symm; rw [beq_eq_false_iff_ne]; omega
    simp only [e]; rfl
  rw [HF.out, hn]
  clear hn HF
  go_enter Try.func9, Try.ntmps9
  go_wp2_with fail
  all_goals go_ret
  all_goals refine ⟨?_, rfl⟩
  all_goals simp_all
theorem run_note {S : ByteArray} {j : Nat} (h : j < S.size) (hc : S[j].toNat ≠ 10) : runL noteB (S.data.toList.drop j) = runL noteB (S.data.toList.drop (j + 1)) + 1 := by
  rw [drop_at h]
  show (if noteB S[j] then _ else _) = _
  rw [if_pos (by unfold noteB; simp [hc])]
theorem Bx.grown {W W' : World} {g : Nat} {l : List Value} {o : Option Nat} (h : Bx W g l) (hg : W.grownBy W' o) (ho : o ≠ some g) : Bx W' g l := by
  have hlt := h.lt
  obtain ⟨ty, h⟩ := h
  exact ⟨ty, (hg.block g hlt (fun e => ho e.symm)).trans h⟩
theorem run_note0 {S : ByteArray} {j : Nat} (hc : ∀ h : j < S.size, S[j].toNat = 10) : runL noteB (S.data.toList.drop j) = 0 := by
  by_cases h : j < S.size
  · rw [drop_at h]
    show (if noteB S[j] then _ else _) = _
    rw [if_neg (by unfold noteB; simp [hc h])]
  · rw [drop_end h]; rfl
set_option maxRecDepth 100000 in
set_option maxHeartbeats 8000000 in
theorem readTree_spec_long (S : ByteArray) (w : World) (hS : S.size ≤ 1048576) (hs : 20000 < S.size) :
    Calls Try.prog 4 #[.string S] w fun e w' => ResP w.heap.size (RR.err 1 0) e w' ∧ Below w.heap.size w w' := by
  go_enter Try.func4, Try.ntmps4
  go_wp2_with fail
  refine bodyPost_ret (v := .agg #[.int .i64 1, .int .i64 0, .slice none 0 0]) ?_ rfl ⟨rfl, below_alloc _ _⟩
  simp [results, Try.results4, go_sem]
set_option maxRecDepth 100000 in
set_option maxHeartbeats 8000000 in
theorem readTree_spec (S : ByteArray) (R : RR) (w : World) (hs : S.size ≤ 20000) (hR : Run S.data.toList ⟨0, [], []⟩ R) :
    Calls Try.prog 4 #[.string S] w fun e w' => ResP w.heap.size R e w' ∧ Below w.heap.size w w' := by
  have HR := hidG hR
  clear hR
  go_enter Try.func4, Try.ntmps4
  go_wp2_with fail
  go_loopw [3, 4, 5] (fun nv ov iv wr => ∃ st : RS, iv = .int .i64 (st.i : Nat) ∧ Inv S.size st ∧ Run S.data.toList st R ∧ wr.ownsRow (w.heap.size + 1) 35 4 nv st.ns.length (cellsN st.ns) ∧ wr.ownsRow (w.heap.size + 1) 3 1 ov st.op.length (intsN st.op) ∧ Bx wr w.heap.size [.int .i64 0, .int .i64 0, .slice none 0 0] ∧ Below w.heap.size w wr ∧ w.heap.size + 1 ≤ wr.heap.size) (fun _ _ iv _ => S.size - (intOf iv).toNat)
  case atStart => exact ⟨⟨0, [], []⟩, rfl, inv_new _, HR.out, World.ownsRow_nil _ _ _ _, World.ownsRow_nil _ _ _ _, bx_new w _ _, below_alloc _ _, by simp⟩
  case round =>
    obtain ⟨st, rfl, hin, hrun, hnr, hor, hbx, hbe, hsz⟩ := hrel
    have HIN := hidG hin
    have HRUN := hidG hrun
    have HNR := hidG hnr
    have HOR := hidG hor
    have HX := hidG hbx
    have HB := hidG hbe
    have hi20 : st.i ≤ 20000 := by have := hin.i; omega
    have hiS := hin.i
    have hn8 := hin.n
    have ho2 := hin.o
    have hlw : w.heap.size < wr.heap.size := by omega
    obtain ⟨pn, cn, rfl⟩ := own_shape hnr
    obtain ⟨po, co, rfl⟩ := own_shape hor
    obtain ⟨c0, c1, c2⟩ := hbx.c3
    have g0 := hbx.frozen 0
    have g1 := hbx.frozen 1
    have g2 := hbx.frozen 2
    clear hin hrun hnr hor hbx hbe
    by_cases hlt : st.i < S.size
    · have hstep := step_c hlt
      unfold stepC at hstep
      by_cases hbl : blankB S[st.i] = true
      · rw [if_pos hbl] at hstep
        have HN := hidG (HRUN.out.go hstep)
        have HK := hidG hbl
        clear hstep hbl c0 c1 c2 g0 g1 g2
        go_wp2_with (go_at_call 9; refine (l3Blank_ex S[st.i] _).mono ?_; rintro e w' ⟨rfl, rfl⟩; rw [HK.out])
        go_roundw
        case rel => exact ⟨⟨st.i + 1, st.ns, st.op⟩, by go_num, inv_at HIN.out hlt, HN.out, HNR.out, HOR.out, HX.out, HB.out, hsz⟩
        case measure => simp [intOf]; omega
      rw [if_neg hbl] at hstep
      have HK : Hid (blankB S[st.i] = false) := by unfold Hid; simpa using hbl
      clear hbl
      by_cases h59 : S[st.i].toNat = 59
      · rw [if_pos h59] at hstep
        have HN := hidG (HRUN.out.go hstep)
        have z59 : ((S[st.i].toNat : Int) == 59) = true := by rw [beq_iff_eq]; omega
        obtain ⟨m, hm⟩ : ∃ m, runL noteB (S.data.toList.drop st.i) = m := ⟨_, rfl⟩
        have HM := hidG hm
        have hm0 : 0 < m := by
          rw [← hm, drop_at hlt]; unfold runL; rw [if_pos (by unfold noteB; rw [h59]; rfl)]; omega
        have hml := runL_le noteB (S.data.toList.drop st.i)
        rw [hm, List.length_drop, ← Lib.size_eq] at hml
        rw [hm] at HN
        clear hstep h59 hm c0 c1 c2 g0 g1 g2
        go_wp2_with (go_at_call 9; refine (l3Blank_ex S[st.i] _).mono ?_; rintro e w' ⟨rfl, hw⟩; have hw2 := hw.symm; subst hw2; clear hw; rw [HK.out])
        go_loop [5] (fun iv => ∃ j : Nat, iv = .int .i64 (j : Nat) ∧ st.i ≤ j ∧ j ≤ S.size ∧ j - st.i + runL noteB (S.data.toList.drop j) = m) (fun iv => S.size - (intOf iv).toNat)
        case atStart => exact ⟨st.i, rfl, Nat.le_refl _, by omega, by rw [HM.out]; omega⟩
        case round =>
          obtain ⟨j, rfl, hj1, hj2, hjm⟩ := hrel
          have HJ := hidG hjm
          clear hjm
          by_cases hj3 : j < S.size
          · by_cases hc10 : S[j].toNat = 10
            · have z10 : ((S[j].toNat : Int) == 10) = true := by rw [beq_iff_eq]; omega
              have HJE : Hid (j = st.i + m) := by
                have := HJ.out; rw [run_note0 (fun _ => hc10)] at this; unfold Hid; omega
              have HFIN : Hid (Inv S.size ⟨j, st.ns, st.op⟩ ∧ Run S.data.toList ⟨j, st.ns, st.op⟩ R) := ⟨inv_at HIN.out hj2, by rw [HJE.out]; exact HN.out⟩
              have hjlt : st.i < j := by have := HJE.out; omega
              clear hc10
              go_wp2_with fail
              go_roundw
              case rel => exact ⟨⟨j, st.ns, st.op⟩, by go_num, HFIN.out.1, HFIN.out.2, HNR.out, HOR.out, HX.out, HB.out, hsz⟩
              case measure => simp [intOf]; omega
            · have z10 : ((S[j].toNat : Int) == 10) = false := by rw [beq_eq_false_iff_ne]; omega
              have HJ2 : Hid (j + 1 - st.i + runL noteB (S.data.toList.drop (j + 1)) = m) := by
                have := HJ.out; rw [run_note hj3 hc10] at this; unfold Hid; omega
              clear hc10
              go_wp2_with fail
              go_round
              case rel => exact ⟨j + 1, by go_num, by omega, by omega, HJ2.out⟩
              case measure => simp [intOf]; omega
          · have HJE : Hid (j = st.i + m) := by
              have := HJ.out; rw [run_note0 (fun h => absurd h hj3)] at this; unfold Hid; omega
            have HFIN : Hid (Inv S.size ⟨j, st.ns, st.op⟩ ∧ Run S.data.toList ⟨j, st.ns, st.op⟩ R) := ⟨inv_at HIN.out hj2, by rw [HJE.out]; exact HN.out⟩
            have hjlt : st.i < j := by have := HJE.out; omega
            go_wp2_with fail
            go_roundw
            case rel => exact ⟨⟨j, st.ns, st.op⟩, by go_num, HFIN.out.1, HFIN.out.2, HNR.out, HOR.out, HX.out, HB.out, hsz⟩
            case measure => simp [intOf]; omega
      rw [if_neg h59] at hstep
      have z59 : ((S[st.i].toNat : Int) == 59) = false := by rw [beq_eq_false_iff_ne]; omega
      clear h59
      by_cases h41 : S[st.i].toNat = 41
      · rw [if_pos h41] at hstep
        have z41 : ((S[st.i].toNat : Int) == 41) = true := by rw [beq_iff_eq]; omega
        clear h41
        unfold closeM at hstep
        cases hop : st.op with
        | nil =>
          rw [hop] at hstep
          have HE := hidG (HRUN.out.fin hstep)
          clear hstep hop
          go_wp2_with (go_at_call 9; refine (l3Blank_ex S[st.i] _).mono ?_; rintro e w' ⟨rfl, rfl⟩; rw [HK.out])
          have hx4 := (((HX.out.set 0 (.int .i64 4)).set 1 (.int .i64 (st.i : Nat))).set 2 (.slice none 0 0))
          obtain ⟨e0, e1, e2⟩ := hx4.c3
          refine bodyPost_ret (v := .agg #[.int .i64 4, .int .i64 (st.i : Nat), .slice none 0 0]) ?_ rfl ⟨ResP.err HE.out, (((HB.out.setCell (p := ⟨w.heap.size, 0, none⟩) (Nat.le_refl _) _).setCell (p := ⟨w.heap.size, 1, none⟩) (Nat.le_refl _) _).setCell (p := ⟨w.heap.size, 2, none⟩) (Nat.le_refl _) _)⟩
          clear c0 c1 c2 g0 g1 g2
          simp [results, Try.results4, go_sem, e0, e1, e2]
        | cons j r =>
          rw [hop] at hstep
          have HN := hidG (HRUN.out.go hstep)
          have HIN2 : Hid (Inv S.size ⟨st.i + 1, st.ns, r⟩) := inv_cut HIN.out hop hlt
          have hor := HOR.out
          rw [hop, List.length_cons] at hor
          have hor1 := hor
          obtain ⟨go, co', he, hbg, hglt⟩ := hor1.form (by omega)
          cases he
          have hcap := own_cap hor
          unfold maxLen at hcap
          have HOR2 := hidG (own_cut' hor)
          clear hstep hor hor1
          rw [List.length_cons]
          go_wp2_with (go_at_call 9; refine (l3Blank_ex S[st.i] _).mono ?_; rintro e w' ⟨rfl, hw⟩; have hw2 := hw.symm; subst hw2; clear hw; rw [HK.out])
          go_roundw
          case rel => exact ⟨⟨st.i + 1, st.ns, r⟩, by go_num, HIN2.out, HN.out, HNR.out, HOR2.out, HX.out, HB.out, hsz⟩
          case measure => simp [intOf]; omega
      rw [if_neg h41] at hstep
      have z41 : ((S[st.i].toNat : Int) == 41) = false := by rw [beq_eq_false_iff_ne]; omega
      clear h41
      have HNB : Hid (∀ x, nodeL (S.data.toList.drop st.i) = x → goM st (nodeL (S.data.toList.drop st.i)) = goM st x) := fun x e => by rw [e]
      by_cases h40 : S[st.i].toNat = 40
      · have z40 : ((S[st.i].toNat : Int) == 40) = true := by rw [beq_iff_eq]; omega
        have hnl : nodeL (S.data.toList.drop st.i) = some (1, [], 1) := by
          unfold nodeL; rw [if_pos (by rw [head_at_i hlt, u8_is (d := 40) h40])]
        rw [hnl] at hstep
        clear h40 hnl
        simp only [goM] at hstep
        by_cases h8 : st.ns.length = 8000
        · have z8 : ((st.ns.length : Int) == 8000) = true := by rw [beq_iff_eq]; omega
          have hE : addE st.ns st.op 1 = 5 := by unfold addE; rw [if_pos h8]
          rw [hE, if_neg (by decide)] at hstep
          have HE := hidG (HRUN.out.fin hstep)
          clear hstep hE h8
          go_wp2_with (go_at_call 9; refine (l3Blank_ex S[st.i] _).mono ?_; rintro e w' ⟨rfl, hw⟩; have hw2 := hw.symm; subst hw2; clear hw; rw [HK.out])
          have hx4 := ((((HX.out.set 0 (.int .i64 5)).set 1 (.int .i64 (st.i : Nat))).set 2 (.slice none 0 0)).alloc (.cells #[.int .i64 1, .string ⟨#[]⟩, .int .i64 ((st.i : Int) + 1)] 32))
          obtain ⟨e0, e1, e2⟩ := hx4.c3
          refine bodyPost_ret (v := .agg #[.int .i64 5, .int .i64 (st.i : Nat), .slice none 0 0]) ?_ rfl ⟨ResP.err HE.out, ((((HB.out.setCell (p := ⟨w.heap.size, 0, none⟩) (Nat.le_refl _) _).setCell (p := ⟨w.heap.size, 1, none⟩) (Nat.le_refl _) _).setCell (p := ⟨w.heap.size, 2, none⟩) (Nat.le_refl _) _).alloc (by simp; omega) _)⟩
          clear c0 c1 c2 g0 g1 g2
          simp [results, Try.results4, go_sem, e0, e1, e2]
        have z8 : ((st.ns.length : Int) == 8000) = false := by rw [beq_eq_false_iff_ne]; omega
        by_cases h200 : st.op.length = 200
        · have z200 : ((st.op.length : Int) == 200) = true := by rw [beq_iff_eq]; omega
          have hE : addE st.ns st.op 1 = 6 := by unfold addE; rw [if_neg h8, if_pos ⟨rfl, h200⟩]
          rw [hE, if_neg (by decide)] at hstep
          have HE := hidG (HRUN.out.fin hstep)
          clear hstep hE h8 h200
          go_wp2_with (go_at_call 9; refine (l3Blank_ex S[st.i] _).mono ?_; rintro e w' ⟨rfl, hw⟩; have hw2 := hw.symm; subst hw2; clear hw; rw [HK.out])
          have hx4 := ((((HX.out.set 0 (.int .i64 6)).set 1 (.int .i64 (st.i : Nat))).set 2 (.slice none 0 0)).alloc (.cells #[.int .i64 1, .string ⟨#[]⟩, .int .i64 ((st.i : Int) + 1)] 32))
          obtain ⟨e0, e1, e2⟩ := hx4.c3
          refine bodyPost_ret (v := .agg #[.int .i64 6, .int .i64 (st.i : Nat), .slice none 0 0]) ?_ rfl ⟨ResP.err HE.out, ((((HB.out.setCell (p := ⟨w.heap.size, 0, none⟩) (Nat.le_refl _) _).setCell (p := ⟨w.heap.size, 1, none⟩) (Nat.le_refl _) _).setCell (p := ⟨w.heap.size, 2, none⟩) (Nat.le_refl _) _).alloc (by simp; omega) _)⟩
          clear c0 c1 c2 g0 g1 g2
          simp [results, Try.results4, go_sem, e0, e1, e2]
        have hE : addE st.ns st.op 1 = 0 := by unfold addE; rw [if_neg h8, if_neg (fun e => h200 e.2)]
        have HIN2 : Hid (Inv S.size ⟨st.i + 1, addN st.ns st.op 1 (strOf []) st.i, addO st.ns st.op 1⟩) := inv_add HIN.out (by omega) hE
        rw [hE, if_pos rfl] at hstep
        have HN := hidG (HRUN.out.go hstep)
        have hn7 : st.ns.length < 8000 := by omega
        clear hstep hE h8
        cases hop : st.op with
        | nil =>
          rw [hop] at HN HIN2
          have HOR0 : Hid (wr.ownsRow (w.heap.size + 1) 3 1 (.slice po 0 co) 0 (intsN [])) := by unfold Hid; have := HOR.out; rw [hop] at this; exact this
          have HNT : Hid (Value.ownBlock (.slice pn st.ns.length cn) ≠ some wr.heap.size) := fun e => by have := (HNR.out.lt _ e).2; omega
          have HOT : Hid (Value.ownBlock (.slice po 0 co) ≠ some wr.heap.size) := fun e => by have := (HOR0.out.lt _ e).2; omega
          clear c0 c1 c2 g0 g1 g2
          go_wp2_with (first | (go_at_call 9; refine (l3Blank_ex S[st.i] _).mono ?_; rintro e w' ⟨rfl, hw⟩; have hw2 := hw.symm; subst hw2; clear hw; rw [HK.out]) | (at_builtin; refine wpList_appN (n := st.ns.length) (base := w.heap.size + 1) (xs := cellsN st.ns) (x := (⟨1, ⟨#[]⟩, 0⟩, ((st.i : Nat) : Int))) rfl _ _ rfl rfl ?own _ rfl ?hH ?hn ?hb ?_))
          case own => exact HNR.out.alloc _
          case hH => simp
          case hn => omega
          case hb => simp; omega
          intro g4 c4 w4 hown4 hgr4
          have HNW : Hid ((wr.alloc (.cells #[.int .i64 1, .string ⟨#[]⟩, .int .i64 ((st.i : Int) + 1)] 32)).ownsRow (w.heap.size + 1) 35 4 (.slice pn st.ns.length cn) st.ns.length (cellsN st.ns)) := HNR.out.alloc _
          have HOW : Hid ((wr.alloc (.cells #[.int .i64 1, .string ⟨#[]⟩, .int .i64 ((st.i : Int) + 1)] 32)).ownsRow (w.heap.size + 1) 3 1 (.slice po 0 co) 0 (intsN [])) := HOR0.out.alloc _
          have HRW : Hid (Bx (wr.alloc (.cells #[.int .i64 1, .string ⟨#[]⟩, .int .i64 ((st.i : Int) + 1)] 32)) w.heap.size [.int .i64 0, .int .i64 0, .slice none 0 0]) := HX.out.alloc _
          have HTW : Hid (Bx (wr.alloc (.cells #[.int .i64 1, .string ⟨#[]⟩, .int .i64 ((st.i : Int) + 1)] 32)) wr.heap.size [.int .i64 1, .string ⟨#[]⟩, .int .i64 ((st.i : Int) + 1)]) := bx_new wr _ _
          have HBW : Hid (Below w.heap.size w (wr.alloc (.cells #[.int .i64 1, .string ⟨#[]⟩, .int .i64 ((st.i : Int) + 1)] 32))) := HB.out.alloc (by omega) _
          have hneT : Value.ownBlock (.slice pn st.ns.length cn) ≠ some wr.heap.size := HNT.out
          have hneR : Value.ownBlock (.slice pn st.ns.length cn) ≠ some w.heap.size := own_low HNW.out (by omega)
          have ht4 := (HTW.out.alloc _).grown hgr4 hneT
          have HT4 := hidG ht4
          have HR4 := hidG ((HRW.out.alloc _).grown hgr4 hneR)
          have HO4 := hidG (own_apart' (HNW.out.alloc _) (HOW.out.alloc _) (by decide) hgr4)
          have HB4 : Hid (Below w.heap.size w w4) := ((HBW.out.alloc (by simp; omega) _).grown hgr4 (by simp; omega) (fun k e => by have := (HNW.out.lt k e).1; omega))
          have HN4 : Hid (w4.ownsRow (w.heap.size + 1) 35 4 (.slice (some ⟨g4, 0, none⟩) (st.ns.length + 1) c4) (addN st.ns [] 1 (strOf []) (st.i : Nat)).length (cellsN (addN st.ns [] 1 (strOf []) (st.i : Nat)))) := by
            have e : (addN st.ns [] 1 (strOf []) (st.i : Nat)).length = st.ns.length + 1 := by simp [addN, bump_len]
            unfold Hid
            rw [e]
            unfold addN
            rw [cellsN_snoc]
            exact hown4
          have hs4 : wr.heap.size + 1 ≤ w4.heap.size := by have := hgr4.size; simp at this; omega
          obtain ⟨x0, x1, x2⟩ := ht4.c3
          clear hown4 hgr4 ht4 hneT hneR
          go_wp2_with (at_builtin; refine wpList_appI (n := 0) (base := w.heap.size + 1) (xs := intsN []) rfl _ _ rfl rfl ?own2 _ rfl ?hH2 ?hn2 ?hb2 ?_)
          case own2 => exact HO4.out
          case hH2 => rfl
          case hn2 => omega
          case hb2 => omega
          intro g5 c5 w5 hown5 hgr5
          have hneT5 : Value.ownBlock (.slice po 0 co) ≠ some wr.heap.size := HOT.out
          have hneR5 : Value.ownBlock (.slice po 0 co) ≠ some w.heap.size := own_low HO4.out (by omega)
          have ht5 := (HT4.out.alloc _).grown hgr5 hneT5
          have HR5 := hidG ((HR4.out.alloc _).grown hgr5 hneR5)
          have HN5 := hidG (own_apart' (HO4.out.alloc _) (HN4.out.alloc _) (by decide) hgr5)
          have HB5 : Hid (Below w.heap.size w w5) := ((HB4.out.alloc (by omega) _).grown hgr5 (by simp; omega) (fun k e => by have := (HO4.out.lt k e).1; omega))
          have HO5 : Hid (w5.ownsRow (w.heap.size + 1) 3 1 (.slice (some ⟨g5, 0, none⟩) (0 + 1) c5) (addO st.ns [] 1).length (intsN (addO st.ns [] 1))) := by
            unfold Hid addO
            rw [if_pos rfl, intsN_cons]
            exact hown5
          have hs5 : wr.heap.size + 1 ≤ w5.heap.size := by have := hgr5.size; simp at this; omega
          obtain ⟨y0, y1, y2⟩ := ht5.c3
          clear hown5 hgr5 ht5 hneT5 hneR5 x0 x1 x2
          go_wp2
          go_roundw
          case rel => exact ⟨⟨st.i + 1, addN st.ns [] 1 (strOf []) st.i, addO st.ns [] 1⟩, by go_num, HIN2.out, HN.out, HN5.out, HO5.out, HR5.out, HB5.out, by omega⟩
          case measure => simp [intOf]; omega
        | cons j r =>
          have hj : j < st.ns.length := HIN.out.j j (by rw [hop]; simp)
          have hki := HIN.out.k st.ns[j] (List.getElem_mem hj)
          have hr1 : r.length + 1 < 200 := by have := ho2; rw [hop, List.length_cons] at this h200; omega
          rw [hop] at HN HIN2
          have hor := HOR.out
          rw [hop, List.length_cons] at hor
          have hnr := HNR.out
          obtain ⟨go, co', he, hbg, hglt⟩ := hor.form (by omega)
          cases he
          obtain ⟨gn, cn', he, hbgn, hgnlt⟩ := hnr.form (by omega)
          cases he
          have hcap := own_cap hor
          have hcapn := own_cap hnr
          have kj := hor.cellAt r.length (by omega)
          rw [intsN_last] at kj
          have kq := hnr.cellAt (j * 4 + 2) (by omega)
          rw [cellsN_at st.ns j 2 hj (by decide)] at kq
          obtain ⟨kd, hkd⟩ : ∃ kd, st.ns[j].1.kids = kd := ⟨_, rfl⟩
          have kq' : wr.cell? ⟨gn, j * 4 + 2, none⟩ = some (.int .i64 kd) := by rw [← hkd]; exact kq
          have fq := hnr.frozenAt (j * 4 + 2)
          have HKD := hidG hkd
          rw [hkd] at hki
          have hki2 : kd ≤ 8000 := by omega
          have HNT : Hid (Value.ownBlock (.slice (some ⟨gn, 0, none⟩) st.ns.length cn) ≠ some wr.heap.size) := fun e => by have := (hnr.lt _ e).2; omega
          have HOT : Hid (Value.ownBlock (.slice (some ⟨go, 0, none⟩) (r.length + 1) co) ≠ some wr.heap.size) := fun e => by have := (hor.lt _ e).2; omega
          have hgnw : gn ≠ w.heap.size := by omega
          have hgnr : gn ≠ wr.heap.size := by omega
          have hgor : go ≠ wr.heap.size := by omega
          have HORJ := hidG hor
          have zr : ((r.length : Int) + 1 == 200) = false := by rw [beq_eq_false_iff_ne]; omega
          unfold maxLen at hcap hcapn
          rw [List.length_cons]
          clear kq hkd
          have hst := hnr.stored (j * 4 + 2) (.int .i64 (kd + 1))
          rw [← HKD.out, cellsN_inc st.ns j hj, HKD.out] at hst
          have HSTN := hidG hst.1
          have HSTO := hidG (own_apart' hnr hor (by decide) hst.2)
          clear hst hnr hor c0 c1 c2 g0 g1 g2
          go_wp2_with (first | (go_at_call 9; refine (l3Blank_ex S[st.i] _).mono ?_; rintro e w' ⟨rfl, hw⟩; have hw2 := hw.symm; subst hw2; clear hw; rw [HK.out]) | (at_builtin; refine wpList_appN (n := st.ns.length) (base := w.heap.size + 1) (xs := cellsN (st.ns.modify j incN)) (x := (⟨1, ⟨#[]⟩, 0⟩, ((st.i : Nat) : Int))) rfl _ _ rfl rfl ?own _ rfl ?hH ?hn ?hb ?_))
          case own => exact HSTN.out.alloc _
          case hH => simp
          case hn => omega
          case hb => simp; omega
          intro g4 c4 w4 hown4 hgr4
          have HNW : Hid (((wr.setCell ⟨gn, j * 4 + 2, none⟩ (.int .i64 (kd + 1))).alloc (.cells #[.int .i64 1, .string ⟨#[]⟩, .int .i64 ((st.i : Int) + 1)] 32)).ownsRow (w.heap.size + 1) 35 4 (.slice (some ⟨gn, 0, none⟩) st.ns.length cn) st.ns.length (cellsN (st.ns.modify j incN))) := HSTN.out.alloc _
          have HOW : Hid (((wr.setCell ⟨gn, j * 4 + 2, none⟩ (.int .i64 (kd + 1))).alloc (.cells #[.int .i64 1, .string ⟨#[]⟩, .int .i64 ((st.i : Int) + 1)] 32)).ownsRow (w.heap.size + 1) 3 1 (.slice (some ⟨go, 0, none⟩) (r.length + 1) co) (r.length + 1) (intsN (j :: r))) := HSTO.out.alloc _
          have HRW : Hid (Bx ((wr.setCell ⟨gn, j * 4 + 2, none⟩ (.int .i64 (kd + 1))).alloc (.cells #[.int .i64 1, .string ⟨#[]⟩, .int .i64 ((st.i : Int) + 1)] 32)) w.heap.size [.int .i64 0, .int .i64 0, .slice none 0 0]) := (HX.out.other ⟨gn, j * 4 + 2, none⟩ hgnw _).alloc _
          have HTW : Hid (Bx ((wr.setCell ⟨gn, j * 4 + 2, none⟩ (.int .i64 (kd + 1))).alloc (.cells #[.int .i64 1, .string ⟨#[]⟩, .int .i64 ((st.i : Int) + 1)] 32)) wr.heap.size [.int .i64 1, .string ⟨#[]⟩, .int .i64 ((st.i : Int) + 1)]) := by
            have hx := bx_new (wr.setCell ⟨gn, j * 4 + 2, none⟩ (.int .i64 (kd + 1))) [.int .i64 1, .string ⟨#[]⟩, .int .i64 ((st.i : Int) + 1)] 32
            rw [show (wr.setCell ⟨gn, j * 4 + 2, none⟩ (.int .i64 (kd + 1))).heap.size = wr.heap.size by simp] at hx
            exact hx
          have HBW : Hid (Below w.heap.size w ((wr.setCell ⟨gn, j * 4 + 2, none⟩ (.int .i64 (kd + 1))).alloc (.cells #[.int .i64 1, .string ⟨#[]⟩, .int .i64 ((st.i : Int) + 1)] 32))) := (HB.out.setCell (p := ⟨gn, j * 4 + 2, none⟩) (by show w.heap.size ≤ gn; omega) _).alloc (by simp; omega) _
          have hneT : Value.ownBlock (.slice (some ⟨gn, 0, none⟩) st.ns.length cn) ≠ some wr.heap.size := HNT.out
          have hneR : Value.ownBlock (.slice (some ⟨gn, 0, none⟩) st.ns.length cn) ≠ some w.heap.size := own_low HNW.out (by omega)
          have ht4 := (HTW.out.alloc _).grown hgr4 hneT
          have HT4 := hidG ht4
          have HR4 := hidG ((HRW.out.alloc _).grown hgr4 hneR)
          have HO4 := hidG (own_apart' (HNW.out.alloc _) (HOW.out.alloc _) (by decide) hgr4)
          have HB4 : Hid (Below w.heap.size w w4) := ((HBW.out.alloc (by simp; omega) _).grown hgr4 (by simp; omega) (fun k e => by have := (HNW.out.lt k e).1; omega))
          have HN4 : Hid (w4.ownsRow (w.heap.size + 1) 35 4 (.slice (some ⟨g4, 0, none⟩) (st.ns.length + 1) c4) (addN st.ns (j :: r) 1 (strOf []) (st.i : Nat)).length (cellsN (addN st.ns (j :: r) 1 (strOf []) (st.i : Nat)))) := by
            have e : (addN st.ns (j :: r) 1 (strOf []) (st.i : Nat)).length = st.ns.length + 1 := by simp [addN, bump_len]
            unfold Hid
            rw [e]
            unfold addN
            rw [cellsN_snoc]
            exact hown4
          have hs4 : wr.heap.size + 1 ≤ w4.heap.size := by have := hgr4.size; simp at this; omega
          obtain ⟨x0, x1, x2⟩ := ht4.c3
          clear hown4 hgr4 ht4 hneT hneR
          go_wp2_with (at_builtin; refine wpList_appI (n := (r.length + 1)) (base := w.heap.size + 1) (xs := intsN (j :: r)) rfl _ _ rfl rfl ?own2 _ rfl ?hH2 ?hn2 ?hb2 ?_)
          case own2 => exact HO4.out
          case hH2 => rfl
          case hn2 => omega
          case hb2 => omega
          intro g5 c5 w5 hown5 hgr5
          have hneT5 : Value.ownBlock (.slice (some ⟨go, 0, none⟩) (r.length + 1) co) ≠ some wr.heap.size := HOT.out
          have hneR5 : Value.ownBlock (.slice (some ⟨go, 0, none⟩) (r.length + 1) co) ≠ some w.heap.size := own_low HO4.out (by omega)
          have ht5 := (HT4.out.alloc _).grown hgr5 hneT5
          have HR5 := hidG ((HR4.out.alloc _).grown hgr5 hneR5)
          have HN5 := hidG (own_apart' (HO4.out.alloc _) (HN4.out.alloc _) (by decide) hgr5)
          have HB5 : Hid (Below w.heap.size w w5) := ((HB4.out.alloc (by omega) _).grown hgr5 (by simp; omega) (fun k e => by have := (HO4.out.lt k e).1; omega))
          have HO5 : Hid (w5.ownsRow (w.heap.size + 1) 3 1 (.slice (some ⟨g5, 0, none⟩) ((r.length + 1) + 1) c5) (addO st.ns (j :: r) 1).length (intsN (addO st.ns (j :: r) 1))) := by
            unfold Hid addO
            rw [if_pos rfl, intsN_cons]
            exact hown5
          have hs5 : wr.heap.size + 1 ≤ w5.heap.size := by have := hgr5.size; simp at this; omega
          obtain ⟨y0, y1, y2⟩ := ht5.c3
          clear hown5 hgr5 ht5 hneT5 hneR5 x0 x1 x2
          go_wp2
          go_roundw
          case rel => exact ⟨⟨st.i + 1, addN st.ns (j :: r) 1 (strOf []) st.i, addO st.ns (j :: r) 1⟩, by go_num, HIN2.out, HN.out, HN5.out, HO5.out, HR5.out, HB5.out, by omega⟩
          case measure => simp [intOf]; omega
      · have z40 : ((S[st.i].toNat : Int) == 40) = false := by rw [beq_eq_false_iff_ne]; omega
        have hnl : nodeL (S.data.toList.drop st.i) = tokL (S.data.toList.drop st.i) := by
          unfold nodeL; rw [if_neg]
          rw [head_at_i hlt]; intro e; apply h40; rw [Option.some.inj e]; rfl
        rw [hnl] at hstep
        clear h40 hnl
        have hlt3 := l3Token_any S st.i
        have hneT : ∀ {e : TypeId} {sz : Nat} {v : Value} {n : Nat} {xs : List Value}, wr.ownsRow (w.heap.size + 1) e sz v n xs → v.ownBlock ≠ some wr.heap.size := fun h e => by have := (h.lt _ e).2; omega
        have HNT := hidG (hneT HNR.out)
        have HOT := hidG (hneT HOR.out)
        clear hneT
        cases htk : tokL (S.data.toList.drop st.i) with
        | none =>
          rw [htk] at hstep hlt3
          have HL3 := hidG hlt3
          have HE := hidG (HRUN.out.fin hstep)
          clear hstep htk hlt3
          have hnw : wr.heap.size ≠ w.heap.size := by omega
          have hnw' : w.heap.size ≠ wr.heap.size := by omega
          clear c0 c1 c2 g0 g1 g2
          go_wp2_with (first | (go_at_call 9; refine (l3Blank_ex S[st.i] _).mono ?_; rintro e w' ⟨rfl, hw⟩; have hw2 := hw.symm; subst hw2; clear hw; rw [HK.out]) | (go_at_call 10; refine (HL3.out _ hs hlt).mono ?_; rintro e w2 ⟨he, hb2⟩; unfold specR resK at he; subst he; have hxt := (bx_new wr [.int .i64 1, .string ⟨#[]⟩, .int .i64 ((st.i : Int) + 1)] 32).below (N := wr.heap.size + 1) (by omega) (hb2.mono (by simp)); have hxr := (HX.out.alloc (.cells #[.int .i64 1, .string ⟨#[]⟩, .int .i64 ((st.i : Int) + 1)] 32)).below (N := wr.heap.size + 1) (by omega) (hb2.mono (by simp)); have HXT := hidG hxt; have HXR := hidG hxr; have HB2 : Hid (Below w.heap.size w w2) := (HB.out.alloc (by omega) _).trans (hb2.mono (by simp; omega)); have hs2 : wr.heap.size + 1 ≤ w2.heap.size := (by have := hb2.size; simpa using this); obtain ⟨t0, t1, t2⟩ := hxt.c3; have q0 := hxt.frozen 0; have q1 := hxt.frozen 1; have q2 := hxt.frozen 2; have HN2 := hidG (own_other' (HNR.out.alloc (.cells #[.int .i64 1, .string ⟨#[]⟩, .int .i64 ((st.i : Int) + 1)] 32)) (fun g hg => hb2.block g ((HNR.out.alloc (.cells #[.int .i64 1, .string ⟨#[]⟩, .int .i64 ((st.i : Int) + 1)] 32)).lt g hg).2)); have HO2 := hidG (own_other' (HOR.out.alloc (.cells #[.int .i64 1, .string ⟨#[]⟩, .int .i64 ((st.i : Int) + 1)] 32)) (fun g hg => hb2.block g ((HOR.out.alloc (.cells #[.int .i64 1, .string ⟨#[]⟩, .int .i64 ((st.i : Int) + 1)] 32)).lt g hg).2)); have hlr : w.heap.size < w2.heap.size := (by omega); have hlt2 : wr.heap.size < w2.heap.size := (by omega); obtain ⟨c0, c1, c2⟩ := hxr.c3; have g0 := hxr.frozen 0; have g1 := hxr.frozen 1; have g2 := hxr.frozen 2; clear hb2 hxt hxr))
          have hx4 := (((((((HXR.out.other ⟨wr.heap.size, 0, none⟩ hnw (.int .i64 0)).other ⟨wr.heap.size, 1, none⟩ hnw (.string ⟨#[]⟩)).other ⟨wr.heap.size, 2, none⟩ hnw (.int .i64 0)).set 0 (.int .i64 2)).set 1 (.int .i64 (st.i : Nat))).set 2 (.slice none 0 0)))
          obtain ⟨e0, e1, e2⟩ := hx4.c3
          refine bodyPost_ret (v := .agg #[.int .i64 2, .int .i64 (st.i : Nat), .slice none 0 0]) ?_ rfl ⟨ResP.err HE.out, ((((((HB2.out.setCell (p := ⟨wr.heap.size, 0, none⟩) (Nat.le_of_lt hlw) _).setCell (p := ⟨wr.heap.size, 1, none⟩) (Nat.le_of_lt hlw) _).setCell (p := ⟨wr.heap.size, 2, none⟩) (Nat.le_of_lt hlw) _).setCell (p := ⟨w.heap.size, 0, none⟩) (Nat.le_refl _) _).setCell (p := ⟨w.heap.size, 1, none⟩) (Nat.le_refl _) _).setCell (p := ⟨w.heap.size, 2, none⟩) (Nat.le_refl _) _)⟩
          clear c0 c1 c2 g0 g1 g2 t0 t1 t2 q0 q1 q2
          simp [results, Try.results4, go_sem, e0, e1, e2]
        | some x =>
          obtain ⟨k, t, n⟩ := x
          have hns := tokL_some htk
          rw [List.length_drop, ← Lib.size_eq] at hns
          rw [htk] at hstep hlt3
          simp only [goM] at hstep
          obtain ⟨tx, htx⟩ : ∃ tx, strOf t = tx := ⟨_, rfl⟩
          rw [htx] at hstep
          have HL3 : Hid (∀ w, S.size ≤ 20000 → st.i < S.size → Calls Try.prog 10 #[.string S, .int .i64 (st.i : Nat)] w fun e w' => e = resK k tx (st.i + n) ∧ Below w.heap.size w w') := fun w a b => by rw [← htx]; exact hlt3 w a b
          clear htk hlt3 htx
          have zk : (k == 0) = false := by rw [beq_eq_false_iff_ne]; exact hns.2.2.2
          by_cases h8 : st.ns.length = 8000
          · have z8 : ((st.ns.length : Int) == 8000) = true := by rw [beq_iff_eq]; omega
            have hE : addE st.ns st.op k = 5 := by unfold addE; rw [if_pos h8]
            rw [hE, if_neg (by decide)] at hstep
            have HE := hidG (HRUN.out.fin hstep)
            clear hstep hE h8
            have hnw : wr.heap.size ≠ w.heap.size := by omega
            have hnw' : w.heap.size ≠ wr.heap.size := by omega
            clear c0 c1 c2 g0 g1 g2
            go_wp2_with (first | (go_at_call 9; refine (l3Blank_ex S[st.i] _).mono ?_; rintro e w' ⟨rfl, hw⟩; have hw2 := hw.symm; subst hw2; clear hw; rw [HK.out]) | (go_at_call 10; refine (HL3.out _ hs hlt).mono ?_; rintro e w2 ⟨he, hb2⟩; unfold resK at he; subst he; have hxt := (bx_new wr [.int .i64 1, .string ⟨#[]⟩, .int .i64 ((st.i : Int) + 1)] 32).below (N := wr.heap.size + 1) (by omega) (hb2.mono (by simp)); have hxr := (HX.out.alloc (.cells #[.int .i64 1, .string ⟨#[]⟩, .int .i64 ((st.i : Int) + 1)] 32)).below (N := wr.heap.size + 1) (by omega) (hb2.mono (by simp)); have HXT := hidG hxt; have HXR := hidG hxr; have HB2 : Hid (Below w.heap.size w w2) := (HB.out.alloc (by omega) _).trans (hb2.mono (by simp; omega)); have hs2 : wr.heap.size + 1 ≤ w2.heap.size := (by have := hb2.size; simpa using this); obtain ⟨t0, t1, t2⟩ := hxt.c3; have q0 := hxt.frozen 0; have q1 := hxt.frozen 1; have q2 := hxt.frozen 2; have HN2 := hidG (own_other' (HNR.out.alloc (.cells #[.int .i64 1, .string ⟨#[]⟩, .int .i64 ((st.i : Int) + 1)] 32)) (fun g hg => hb2.block g ((HNR.out.alloc (.cells #[.int .i64 1, .string ⟨#[]⟩, .int .i64 ((st.i : Int) + 1)] 32)).lt g hg).2)); have HO2 := hidG (own_other' (HOR.out.alloc (.cells #[.int .i64 1, .string ⟨#[]⟩, .int .i64 ((st.i : Int) + 1)] 32)) (fun g hg => hb2.block g ((HOR.out.alloc (.cells #[.int .i64 1, .string ⟨#[]⟩, .int .i64 ((st.i : Int) + 1)] 32)).lt g hg).2)); have hlr : w.heap.size < w2.heap.size := (by omega); have hlt2 : wr.heap.size < w2.heap.size := (by omega); obtain ⟨c0, c1, c2⟩ := hxr.c3; have g0 := hxr.frozen 0; have g1 := hxr.frozen 1; have g2 := hxr.frozen 2; clear hb2 hxt hxr))
            have hx4 := (((((((HXR.out.other ⟨wr.heap.size, 0, none⟩ hnw (.int .i64 k)).other ⟨wr.heap.size, 1, none⟩ hnw (.string tx)).other ⟨wr.heap.size, 2, none⟩ hnw (.int .i64 ((st.i : Int) + (n : Int)))).set 0 (.int .i64 5)).set 1 (.int .i64 (st.i : Nat))).set 2 (.slice none 0 0)))
            obtain ⟨e0, e1, e2⟩ := hx4.c3
            refine bodyPost_ret (v := .agg #[.int .i64 5, .int .i64 (st.i : Nat), .slice none 0 0]) ?_ rfl ⟨ResP.err HE.out, ((((((HB2.out.setCell (p := ⟨wr.heap.size, 0, none⟩) (Nat.le_of_lt hlw) _).setCell (p := ⟨wr.heap.size, 1, none⟩) (Nat.le_of_lt hlw) _).setCell (p := ⟨wr.heap.size, 2, none⟩) (Nat.le_of_lt hlw) _).setCell (p := ⟨w.heap.size, 0, none⟩) (Nat.le_refl _) _).setCell (p := ⟨w.heap.size, 1, none⟩) (Nat.le_refl _) _).setCell (p := ⟨w.heap.size, 2, none⟩) (Nat.le_refl _) _)⟩
            clear c0 c1 c2 g0 g1 g2 t0 t1 t2 q0 q1 q2
            simp [results, Try.results4, go_sem, e0, e1, e2]
          have z8 : ((st.ns.length : Int) == 8000) = false := by rw [beq_eq_false_iff_ne]; omega
          have hE : addE st.ns st.op k = 0 := by unfold addE; rw [if_neg h8, if_neg (fun e => hns.2.2.1 e.1)]
          have HIN2 : Hid (Inv S.size ⟨st.i + n, addN st.ns st.op k tx st.i, addO st.ns st.op k⟩) := inv_add HIN.out (by omega) hE
          rw [hE, if_pos rfl] at hstep
          have HN := hidG (HRUN.out.go hstep)
          have HAO : Hid (addO st.ns st.op k = st.op) := by unfold Hid addO; rw [if_neg hns.2.2.1]
          rw [HAO.out] at HN HIN2
          have hn7 : st.ns.length < 8000 := by omega
          have hn0 := hns.1
          have hnS := hns.2.1
          clear hstep hE h8 hns
          cases hop : st.op with
          | nil =>
            rw [hop] at HN HIN2
            have HOT0 : Hid (Value.ownBlock (.slice po 0 co) ≠ some wr.heap.size) := by have := HOT.out; rw [hop] at this; exact this
            have hnw : wr.heap.size ≠ w.heap.size := by omega
            have hnw' : w.heap.size ≠ wr.heap.size := by omega
            clear c0 c1 c2 g0 g1 g2
            go_wp2_with (first | (go_at_call 9; refine (l3Blank_ex S[st.i] _).mono ?_; rintro e w' ⟨rfl, hw⟩; have hw2 := hw.symm; subst hw2; clear hw; rw [HK.out]) | (go_at_call 10; refine (HL3.out _ hs hlt).mono ?_; rintro e w2 ⟨he, hb2⟩; unfold resK at he; subst he; have hxt := (bx_new wr [.int .i64 1, .string ⟨#[]⟩, .int .i64 ((st.i : Int) + 1)] 32).below (N := wr.heap.size + 1) (by omega) (hb2.mono (by simp)); have hxr := (HX.out.alloc (.cells #[.int .i64 1, .string ⟨#[]⟩, .int .i64 ((st.i : Int) + 1)] 32)).below (N := wr.heap.size + 1) (by omega) (hb2.mono (by simp)); have HXT := hidG hxt; have HXR := hidG hxr; have HB2 : Hid (Below w.heap.size w w2) := (HB.out.alloc (by omega) _).trans (hb2.mono (by simp; omega)); have hs2 : wr.heap.size + 1 ≤ w2.heap.size := (by have := hb2.size; simpa using this); obtain ⟨t0, t1, t2⟩ := hxt.c3; have q0 := hxt.frozen 0; have q1 := hxt.frozen 1; have q2 := hxt.frozen 2; have HN2 := hidG (own_other' (HNR.out.alloc (.cells #[.int .i64 1, .string ⟨#[]⟩, .int .i64 ((st.i : Int) + 1)] 32)) (fun g hg => hb2.block g ((HNR.out.alloc (.cells #[.int .i64 1, .string ⟨#[]⟩, .int .i64 ((st.i : Int) + 1)] 32)).lt g hg).2)); have HO2 := hidG (own_other' (HOR.out.alloc (.cells #[.int .i64 1, .string ⟨#[]⟩, .int .i64 ((st.i : Int) + 1)] 32)) (fun g hg => hb2.block g ((HOR.out.alloc (.cells #[.int .i64 1, .string ⟨#[]⟩, .int .i64 ((st.i : Int) + 1)] 32)).lt g hg).2)); have hlt2 : wr.heap.size < w2.heap.size := (by omega); clear hb2 hxt hxr) | (at_builtin; refine wpList_appN (n := st.ns.length) (base := w.heap.size + 1) (xs := cellsN st.ns) (x := (⟨k, tx, 0⟩, ((st.i : Nat) : Int))) rfl _ _ rfl rfl ?own _ rfl ?hH ?hn ?hb ?_))
            case own => exact own_set' (own_set' (own_set' HN2.out HNT.out _ _) HNT.out _ _) HNT.out _ _
            case hH => simp
            case hn => omega
            case hb => simp; omega
            intro g4 c4 w4 hown4 hgr4
            have HO20 : Hid (w2.ownsRow (w.heap.size + 1) 3 1 (.slice po 0 co) 0 (intsN [])) := by unfold Hid; have := HO2.out; rw [hop] at this; exact this
            have HNW : Hid ((((w2.setCell ⟨wr.heap.size, 0, none⟩ (.int .i64 k)).setCell ⟨wr.heap.size, 1, none⟩ (.string tx)).setCell ⟨wr.heap.size, 2, none⟩ (.int .i64 ((st.i : Int) + (n : Int)))).ownsRow (w.heap.size + 1) 35 4 (.slice pn st.ns.length cn) st.ns.length (cellsN st.ns)) := own_set' (own_set' (own_set' HN2.out HNT.out _ _) HNT.out _ _) HNT.out _ _
            have HOW : Hid ((((w2.setCell ⟨wr.heap.size, 0, none⟩ (.int .i64 k)).setCell ⟨wr.heap.size, 1, none⟩ (.string tx)).setCell ⟨wr.heap.size, 2, none⟩ (.int .i64 ((st.i : Int) + (n : Int)))).ownsRow (w.heap.size + 1) 3 1 (.slice po 0 co) 0 (intsN [])) := own_set' (own_set' (own_set' HO20.out HOT0.out _ _) HOT0.out _ _) HOT0.out _ _
            have HRW : Hid (Bx (((w2.setCell ⟨wr.heap.size, 0, none⟩ (.int .i64 k)).setCell ⟨wr.heap.size, 1, none⟩ (.string tx)).setCell ⟨wr.heap.size, 2, none⟩ (.int .i64 ((st.i : Int) + (n : Int)))) w.heap.size [.int .i64 0, .int .i64 0, .slice none 0 0]) := ((HXR.out.other ⟨wr.heap.size, 0, none⟩ hnw _).other ⟨wr.heap.size, 1, none⟩ hnw _).other ⟨wr.heap.size, 2, none⟩ hnw _
            have HTW : Hid (Bx (((w2.setCell ⟨wr.heap.size, 0, none⟩ (.int .i64 k)).setCell ⟨wr.heap.size, 1, none⟩ (.string tx)).setCell ⟨wr.heap.size, 2, none⟩ (.int .i64 ((st.i : Int) + (n : Int)))) wr.heap.size [.int .i64 k, .string tx, .int .i64 ((st.i : Int) + (n : Int))]) := ((HXT.out.set 0 _).set 1 _).set 2 _
            have HBW : Hid (Below w.heap.size w (((w2.setCell ⟨wr.heap.size, 0, none⟩ (.int .i64 k)).setCell ⟨wr.heap.size, 1, none⟩ (.string tx)).setCell ⟨wr.heap.size, 2, none⟩ (.int .i64 ((st.i : Int) + (n : Int))))) := ((HB2.out.setCell (p := ⟨wr.heap.size, 0, none⟩) (Nat.le_of_lt hlw) _).setCell (p := ⟨wr.heap.size, 1, none⟩) (Nat.le_of_lt hlw) _).setCell (p := ⟨wr.heap.size, 2, none⟩) (Nat.le_of_lt hlw) _
            have hneT : Value.ownBlock (.slice pn st.ns.length cn) ≠ some wr.heap.size := HNT.out
            have hneR : Value.ownBlock (.slice pn st.ns.length cn) ≠ some w.heap.size := own_low HNW.out (by omega)
            have ht4 := (HTW.out.alloc _).grown hgr4 hneT
            have HT4 := hidG ht4
            have HR4 := hidG ((HRW.out.alloc _).grown hgr4 hneR)
            have HO4 := hidG (own_apart' (HNW.out.alloc _) (HOW.out.alloc _) (by decide) hgr4)
            have HB4 : Hid (Below w.heap.size w w4) := ((HBW.out.alloc (by simp; omega) _).grown hgr4 (by simp; omega) (fun k e => by have := (HNW.out.lt k e).1; omega))
            have HN4 : Hid (w4.ownsRow (w.heap.size + 1) 35 4 (.slice (some ⟨g4, 0, none⟩) (st.ns.length + 1) c4) (addN st.ns [] k tx (st.i : Nat)).length (cellsN (addN st.ns [] k tx (st.i : Nat)))) := by
              have e : (addN st.ns [] k tx (st.i : Nat)).length = st.ns.length + 1 := by simp [addN, bump_len]
              unfold Hid
              rw [e]
              unfold addN
              rw [cellsN_snoc]
              exact hown4
            have hs4 : wr.heap.size + 1 ≤ w4.heap.size := by have := hgr4.size; simp at this; omega
            obtain ⟨x0, x1, x2⟩ := ht4.c3
            clear hown4 hgr4 ht4 hneT hneR
            go_wp2
            go_roundw
            case rel => exact ⟨⟨st.i + n, addN st.ns [] k tx st.i, []⟩, by go_num, HIN2.out, HN.out, HN4.out, HO4.out, HR4.out, HB4.out, by omega⟩
            case measure => simp [intOf]; omega
          | cons j r =>
            have hj : j < st.ns.length := HIN.out.j j (by rw [hop]; simp)
            have hki := HIN.out.k st.ns[j] (List.getElem_mem hj)
            have hr1 : r.length + 1 ≤ 200 := by have := ho2; rw [hop, List.length_cons] at this; exact this
            rw [hop] at HN HIN2
            have hor := HOR.out
            rw [hop, List.length_cons] at hor
            have hnr := HNR.out
            obtain ⟨go, co', he, hbg, hglt⟩ := hor.form (by omega)
            cases he
            obtain ⟨gn, cn', he, hbgn, hgnlt⟩ := hnr.form (by omega)
            cases he
            have hcap := own_cap hor
            have hcapn := own_cap hnr
            have kj := hor.cellAt r.length (by omega)
            rw [intsN_last] at kj
            have kq := hnr.cellAt (j * 4 + 2) (by omega)
            rw [cellsN_at st.ns j 2 hj (by decide)] at kq
            obtain ⟨kd, hkd⟩ : ∃ kd, st.ns[j].1.kids = kd := ⟨_, rfl⟩
            have kq' : wr.cell? ⟨gn, j * 4 + 2, none⟩ = some (.int .i64 kd) := by rw [← hkd]; exact kq
            have fq := hnr.frozenAt (j * 4 + 2)
            have HKD := hidG hkd
            rw [hkd] at hki
            have hki2 : kd ≤ 8000 := by omega
            have HOTJ : Hid (Value.ownBlock (.slice (some ⟨go, 0, none⟩) (r.length + 1) co) ≠ some wr.heap.size) := fun e => by have := (hor.lt _ e).2; omega
            have hgnw : gn ≠ w.heap.size := by omega
            have hgnr : gn ≠ wr.heap.size := by omega
            have hgor : go ≠ wr.heap.size := by omega
            have HORJ := hidG hor
            unfold maxLen at hcap hcapn
            rw [List.length_cons]
            clear kq hkd
            have hnw : wr.heap.size ≠ w.heap.size := by omega
            have hnw' : w.heap.size ≠ wr.heap.size := by omega
            have hgnr' : wr.heap.size ≠ gn := by omega
            have hgor' : wr.heap.size ≠ go := by omega
            clear hnr hor c0 c1 c2 g0 g1 g2 kj kq' fq
            go_wp2_with (first | (go_at_call 9; refine (l3Blank_ex S[st.i] _).mono ?_; rintro e w' ⟨rfl, hw⟩; have hw2 := hw.symm; subst hw2; clear hw; rw [HK.out]) | (go_at_call 10; refine (HL3.out _ hs hlt).mono ?_; rintro e w2 ⟨he, hb2⟩; unfold resK at he; subst he; have hxt := (bx_new wr [.int .i64 1, .string ⟨#[]⟩, .int .i64 ((st.i : Int) + 1)] 32).below (N := wr.heap.size + 1) (by omega) (hb2.mono (by simp)); have hxr := (HX.out.alloc (.cells #[.int .i64 1, .string ⟨#[]⟩, .int .i64 ((st.i : Int) + 1)] 32)).below (N := wr.heap.size + 1) (by omega) (hb2.mono (by simp)); have HXT := hidG hxt; have HXR := hidG hxr; have HB2 : Hid (Below w.heap.size w w2) := (HB.out.alloc (by omega) _).trans (hb2.mono (by simp; omega)); have hs2 : wr.heap.size + 1 ≤ w2.heap.size := (by have := hb2.size; simpa using this); obtain ⟨t0, t1, t2⟩ := hxt.c3; have q0 := hxt.frozen 0; have q1 := hxt.frozen 1; have q2 := hxt.frozen 2; have HN2 := hidG (own_other' (HNR.out.alloc (.cells #[.int .i64 1, .string ⟨#[]⟩, .int .i64 ((st.i : Int) + 1)] 32)) (fun g hg => hb2.block g ((HNR.out.alloc (.cells #[.int .i64 1, .string ⟨#[]⟩, .int .i64 ((st.i : Int) + 1)] 32)).lt g hg).2)); have HO2 := hidG (own_other' (HOR.out.alloc (.cells #[.int .i64 1, .string ⟨#[]⟩, .int .i64 ((st.i : Int) + 1)] 32)) (fun g hg => hb2.block g ((HOR.out.alloc (.cells #[.int .i64 1, .string ⟨#[]⟩, .int .i64 ((st.i : Int) + 1)] 32)).lt g hg).2)); have kq2 := HN2.out.cellAt (j * 4 + 2) (by omega); rw [cellsN_at st.ns j 2 hj (by decide)] at kq2; have kq2' : w2.cell? ⟨gn, j * 4 + 2, none⟩ = some (.int .i64 kd) := (by rw [← HKD.out]; exact kq2); have fq2 := HN2.out.frozenAt (j * 4 + 2); have ho2' := HO2.out; rw [hop, List.length_cons] at ho2'; have HO2J := hidG ho2'; have kj2 := ho2'.cellAt r.length (by omega); rw [intsN_last] at kj2; have hlt2 : wr.heap.size < w2.heap.size := (by omega); clear kq2 ho2'; clear hb2 hxt hxr) | (at_builtin; refine wpList_appN (n := st.ns.length) (base := w.heap.size + 1) (xs := cellsN (st.ns.modify j incN)) (x := (⟨k, tx, 0⟩, ((st.i : Nat) : Int))) rfl _ _ rfl rfl ?own _ rfl ?hH ?hn ?hb ?_))
            case own => exact (by
              have h : (((w2.setCell ⟨wr.heap.size, 0, none⟩ (.int .i64 k)).setCell ⟨wr.heap.size, 1, none⟩ (.string tx)).setCell ⟨wr.heap.size, 2, none⟩ (.int .i64 ((st.i : Int) + (n : Int)))).ownsRow (w.heap.size + 1) 35 4 (.slice (some ⟨gn, 0, none⟩) st.ns.length cn) st.ns.length (cellsN st.ns) := own_set' (own_set' (own_set' HN2.out HNT.out _ _) HNT.out _ _) HNT.out _ _
              have h2 := (h.stored (j * 4 + 2) (.int .i64 (kd + 1))).1
              rw [← HKD.out, cellsN_inc st.ns j hj, HKD.out] at h2
              exact h2)
            case hH => simp
            case hn => omega
            case hb => simp; omega
            intro g4 c4 w4 hown4 hgr4
            have HNW : Hid (((((w2.setCell ⟨wr.heap.size, 0, none⟩ (.int .i64 k)).setCell ⟨wr.heap.size, 1, none⟩ (.string tx)).setCell ⟨wr.heap.size, 2, none⟩ (.int .i64 ((st.i : Int) + (n : Int)))).setCell ⟨gn, j * 4 + 2, none⟩ (.int .i64 (kd + 1))).ownsRow (w.heap.size + 1) 35 4 (.slice (some ⟨gn, 0, none⟩) st.ns.length cn) st.ns.length (cellsN (st.ns.modify j incN))) := by
              have h : (((w2.setCell ⟨wr.heap.size, 0, none⟩ (.int .i64 k)).setCell ⟨wr.heap.size, 1, none⟩ (.string tx)).setCell ⟨wr.heap.size, 2, none⟩ (.int .i64 ((st.i : Int) + (n : Int)))).ownsRow (w.heap.size + 1) 35 4 (.slice (some ⟨gn, 0, none⟩) st.ns.length cn) st.ns.length (cellsN st.ns) := own_set' (own_set' (own_set' HN2.out HNT.out _ _) HNT.out _ _) HNT.out _ _
              have h2 := (h.stored (j * 4 + 2) (.int .i64 (kd + 1))).1
              rw [← HKD.out, cellsN_inc st.ns j hj, HKD.out] at h2
              exact h2
            have HOW : Hid (((((w2.setCell ⟨wr.heap.size, 0, none⟩ (.int .i64 k)).setCell ⟨wr.heap.size, 1, none⟩ (.string tx)).setCell ⟨wr.heap.size, 2, none⟩ (.int .i64 ((st.i : Int) + (n : Int)))).setCell ⟨gn, j * 4 + 2, none⟩ (.int .i64 (kd + 1))).ownsRow (w.heap.size + 1) 3 1 (.slice (some ⟨go, 0, none⟩) (r.length + 1) co) (r.length + 1) (intsN (j :: r))) := by
              have h : (((w2.setCell ⟨wr.heap.size, 0, none⟩ (.int .i64 k)).setCell ⟨wr.heap.size, 1, none⟩ (.string tx)).setCell ⟨wr.heap.size, 2, none⟩ (.int .i64 ((st.i : Int) + (n : Int)))).ownsRow (w.heap.size + 1) 35 4 (.slice (some ⟨gn, 0, none⟩) st.ns.length cn) st.ns.length (cellsN st.ns) := own_set' (own_set' (own_set' HN2.out HNT.out _ _) HNT.out _ _) HNT.out _ _
              have ho : (((w2.setCell ⟨wr.heap.size, 0, none⟩ (.int .i64 k)).setCell ⟨wr.heap.size, 1, none⟩ (.string tx)).setCell ⟨wr.heap.size, 2, none⟩ (.int .i64 ((st.i : Int) + (n : Int)))).ownsRow (w.heap.size + 1) 3 1 (.slice (some ⟨go, 0, none⟩) (r.length + 1) co) (r.length + 1) (intsN (j :: r)) := own_set' (own_set' (own_set' HO2J.out HOTJ.out _ _) HOTJ.out _ _) HOTJ.out _ _
              exact own_apart' h ho (by decide) (h.stored (j * 4 + 2) (.int .i64 (kd + 1))).2
            have HRW : Hid (Bx ((((w2.setCell ⟨wr.heap.size, 0, none⟩ (.int .i64 k)).setCell ⟨wr.heap.size, 1, none⟩ (.string tx)).setCell ⟨wr.heap.size, 2, none⟩ (.int .i64 ((st.i : Int) + (n : Int)))).setCell ⟨gn, j * 4 + 2, none⟩ (.int .i64 (kd + 1))) w.heap.size [.int .i64 0, .int .i64 0, .slice none 0 0]) := (((HXR.out.other ⟨wr.heap.size, 0, none⟩ hnw _).other ⟨wr.heap.size, 1, none⟩ hnw _).other ⟨wr.heap.size, 2, none⟩ hnw _).other ⟨gn, j * 4 + 2, none⟩ hgnw _
            have HTW : Hid (Bx ((((w2.setCell ⟨wr.heap.size, 0, none⟩ (.int .i64 k)).setCell ⟨wr.heap.size, 1, none⟩ (.string tx)).setCell ⟨wr.heap.size, 2, none⟩ (.int .i64 ((st.i : Int) + (n : Int)))).setCell ⟨gn, j * 4 + 2, none⟩ (.int .i64 (kd + 1))) wr.heap.size [.int .i64 k, .string tx, .int .i64 ((st.i : Int) + (n : Int))]) := (((HXT.out.set 0 _).set 1 _).set 2 _).other ⟨gn, j * 4 + 2, none⟩ hgnr _
            have HBW : Hid (Below w.heap.size w ((((w2.setCell ⟨wr.heap.size, 0, none⟩ (.int .i64 k)).setCell ⟨wr.heap.size, 1, none⟩ (.string tx)).setCell ⟨wr.heap.size, 2, none⟩ (.int .i64 ((st.i : Int) + (n : Int)))).setCell ⟨gn, j * 4 + 2, none⟩ (.int .i64 (kd + 1)))) := (((HB2.out.setCell (p := ⟨wr.heap.size, 0, none⟩) (Nat.le_of_lt hlw) _).setCell (p := ⟨wr.heap.size, 1, none⟩) (Nat.le_of_lt hlw) _).setCell (p := ⟨wr.heap.size, 2, none⟩) (Nat.le_of_lt hlw) _).setCell (p := ⟨gn, j * 4 + 2, none⟩) (by show w.heap.size ≤ gn; omega) _
            have hneT : Value.ownBlock (.slice (some ⟨gn, 0, none⟩) st.ns.length cn) ≠ some wr.heap.size := HNT.out
            have hneR : Value.ownBlock (.slice (some ⟨gn, 0, none⟩) st.ns.length cn) ≠ some w.heap.size := own_low HNW.out (by omega)
            have ht4 := (HTW.out.alloc _).grown hgr4 hneT
            have HT4 := hidG ht4
            have HR4 := hidG ((HRW.out.alloc _).grown hgr4 hneR)
            have HO4 := hidG (own_apart' (HNW.out.alloc _) (HOW.out.alloc _) (by decide) hgr4)
            have HB4 : Hid (Below w.heap.size w w4) := ((HBW.out.alloc (by simp; omega) _).grown hgr4 (by simp; omega) (fun k e => by have := (HNW.out.lt k e).1; omega))
            have HN4 : Hid (w4.ownsRow (w.heap.size + 1) 35 4 (.slice (some ⟨g4, 0, none⟩) (st.ns.length + 1) c4) (addN st.ns (j :: r) k tx (st.i : Nat)).length (cellsN (addN st.ns (j :: r) k tx (st.i : Nat)))) := by
              have e : (addN st.ns (j :: r) k tx (st.i : Nat)).length = st.ns.length + 1 := by simp [addN, bump_len]
              unfold Hid
              rw [e]
              unfold addN
              rw [cellsN_snoc]
              exact hown4
            have hs4 : wr.heap.size + 1 ≤ w4.heap.size := by have := hgr4.size; simp at this; omega
            obtain ⟨x0, x1, x2⟩ := ht4.c3
            clear hown4 hgr4 ht4 hneT hneR
            go_wp2
            go_roundw
            case rel => exact ⟨⟨st.i + n, addN st.ns (j :: r) k tx st.i, (j :: r)⟩, by go_num, HIN2.out, HN.out, HN4.out, HO4.out, HR4.out, HB4.out, by omega⟩
            case measure => simp [intOf]; omega
    · have HEND := HRUN.out.fin (step_end hlt)
      have HEN := hidG HEND
      clear HEND
      cases hop : st.op with
      | nil =>
        rw [hop] at HEN
        have HEQ : Hid (RR.ok st.ns = R) := HEN.out
        go_wp2_with fail
        have hx4 := (((HX.out.set 0 (.int .i64 0)).set 1 (.int .i64 0)).set 2 (.slice pn st.ns.length cn))
        obtain ⟨e0, e1, e2⟩ := hx4.c3
        refine bodyPost_ret (v := .agg #[.int .i64 0, .int .i64 0, .slice pn st.ns.length cn]) ?_ rfl ⟨?_, (((HB.out.setCell (p := ⟨w.heap.size, 0, none⟩) (Nat.le_refl _) _).setCell (p := ⟨w.heap.size, 1, none⟩) (Nat.le_refl _) _).setCell (p := ⟨w.heap.size, 2, none⟩) (Nat.le_refl _) _)⟩
        · clear c0 c1 c2 g0 g1 g2
          simp [results, Try.results4, go_sem, e0, e1, e2]
        · rw [← HEQ.out]
          have hl := own_low (b := w.heap.size) HNR.out (by omega)
          exact ⟨_, rfl, own_base (own_set' (own_set' (own_set' HNR.out hl _ _) hl _ _) hl _ _) (by omega)⟩
      | cons j r =>
        rw [hop] at HEN
        have HEQ : Hid (RR.err 3 (endQ st.ns j) = R) := HEN.out
        have hj : j < st.ns.length := HIN.out.j j (by rw [hop]; simp)
        have hor := HOR.out
        rw [hop, List.length_cons] at hor
        have hnr := HNR.out
        obtain ⟨go, co', he, hbg, hglt⟩ := hor.form (by omega)
        cases he
        obtain ⟨gn, cn', he, hbgn, hgnlt⟩ := hnr.form (by omega)
        cases he
        have hcap := own_cap hor
        have hcapn := own_cap hnr
        have hor2 : r.length + 1 ≤ 200 := by have := ho2; rw [hop, List.length_cons] at this; exact this
        have kj := hor.cellAt r.length (by omega)
        rw [intsN_last] at kj
        have kq := hnr.cellAt (j * 4 + 3) (by omega)
        rw [cellsN_at st.ns j 3 hj (by decide)] at kq
        have HQ : Hid (endQ st.ns j = st.ns[j].2) := by unfold Hid endQ; rw [List.getElem?_eq_getElem hj]
        have kq' : wr.cell? ⟨gn, j * 4 + 3, none⟩ = some (.int .i64 st.ns[j].2) := kq
        obtain ⟨q, hq⟩ : ∃ q, st.ns[j].2 = q := ⟨_, rfl⟩
        rw [hq] at kq' HQ
        rw [HQ.out] at HEQ
        unfold maxLen at hcap hcapn
        clear hor hnr kq hq
        rw [List.length_cons]
        go_wp2_with fail
        have hx4 := (((HX.out.set 0 (.int .i64 3)).set 1 (.int .i64 q)).set 2 (.slice none 0 0))
        obtain ⟨e0, e1, e2⟩ := hx4.c3
        refine bodyPost_ret (v := .agg #[.int .i64 3, .int .i64 q, .slice none 0 0]) ?_ rfl ⟨ResP.err HEQ.out, (((HB.out.setCell (p := ⟨w.heap.size, 0, none⟩) (Nat.le_refl _) _).setCell (p := ⟨w.heap.size, 1, none⟩) (Nat.le_refl _) _).setCell (p := ⟨w.heap.size, 2, none⟩) (Nat.le_refl _) _)⟩
        clear c0 c1 c2 g0 g1 g2
        simp [results, Try.results4, go_sem, e0, e1, e2]
end Go.Proofs.Ytdngpnlbhadbpaa

import Derived.Test.YtdngpnlbhadbpaaTkX
namespace Go.Proofs.Ytdngpnlbhadbpaa
open Go.ChangeShapes Go.WideShapes Go.ChangeAt Go.RowKit
theorem tr_new (w : World) : TR (w.heap.size + 1) (w.heap.size + 1) [] [] ((w.alloc (.cells #[.int .i64 0, .int .i64 0, .slice none 0 0] 24)).alloc (.cells #[.slice none 0 0, .slice none 0 0] 37)) := by
  refine ⟨Nat.le_refl _, _, _, ?_, World.ownsRow_nil _ _ _ _, World.ownsRow_nil _ _ _ _⟩
  have := heap_alloc_new (w.alloc (.cells #[.int .i64 0, .int .i64 0, .slice none 0 0] 24)) (.cells #[.slice none 0 0, .slice none 0 0] 37)
  simpa using this
theorem own_base {W : World} {base base' : Nat} {e : TypeId} {sz : Nat} {v : Value} {n : Nat} {xs : List Value} (h : W.ownsRow base e sz v n xs) (hb : base' ≤ base) : W.ownsRow base' e sz v n xs := by
  refine ⟨h.1, ?_⟩
  rcases h.2 with h0 | ⟨g, cap, cur, rfl, h1, h2, h3⟩
  · exact .inl h0
  · exact .inr ⟨g, cap, cur, rfl, by omega, h2, h3⟩
theorem own_low {W : World} {base b : Nat} {e : TypeId} {sz : Nat} {v : Value} {n : Nat} {xs : List Value} (h : W.ownsRow base e sz v n xs) (hb : b < base) : v.ownBlock ≠ some b := fun e => by have := (h.lt _ e).1; omega
theorem TR.below {base b : Nat} {ns : List (Nd × Int)} {op : List Nat} {w w' : World} (h : TR base b ns op w) (hb : Below w.heap.size w w') : TR base b ns op w' := by
  obtain ⟨h0, vn, vo, h1, h2, h3⟩ := h
  exact ⟨h0, vn, vo, (hb.block b (Array.getElem?_eq_some_iff.1 h1).1).trans h1, own_other' h2 (fun g hg => hb.block g (h2.lt g hg).2), own_other' h3 (fun g hg => hb.block g (h3.lt g hg).2)⟩
theorem ResP.err {base : Nat} {R : RR} {c q : Int} {w : World} (h : RR.err c q = R) : ResP base R (resE c q) w := by subst h; rfl
set_option maxRecDepth 100000 in
set_option maxHeartbeats 1000000 in
theorem strIndex_any (s : ByteArray) (c : Int) (w : World) :
    Calls Try.prog 12 #[.string s, .int .u8 c] w fun e w' => e = .returned (.int .i64 (Lib.indexByte s.data.toList c.toNat.toUInt8)) ∧ w' = w := by
  go_enter Try.func12, Try.ntmps12
  go_wp2_with (go_at_call 25; refine (indexByte_any _ _ _).mono ?_; rintro e w' ⟨rfl, rfl⟩)
  go_ret
  exact ⟨rfl, rfl⟩
theorem idx10 : ∀ l : List UInt8, Lib.indexByte l 10 = if runL noteB l < l.length then (runL noteB l : Int) else -1
  | [] => rfl
  | c :: r => by
    have ih := idx10 r
    by_cases hc : c = 10
    · subst hc
      have : noteB 10 = false := by decide
      simp [Lib.indexByte, runL, this]
    · have hn : noteB c = true := by
        unfold noteB
        rw [Bool.not_eq_true', decide_eq_false_iff_not]
        intro e; apply hc; exact u8_is (d := 10) e
      have e1 : Lib.indexByte (c :: r) 10 = if Lib.indexByte r 10 == -1 then -1 else Lib.indexByte r 10 + 1 := by simp [Lib.indexByte, hc]
      have e2 : runL noteB (c :: r) = runL noteB r + 1 := by simp [runL, hn]
      rw [e1, e2, ih, List.length_cons]
      by_cases hl : runL noteB r < r.length
      · rw [if_pos hl, if_pos (show runL noteB r + 1 < r.length + 1 by omega), if_neg (by rw [beq_iff_eq]; omega)]; omega
      · rw [if_neg hl, if_neg (show ¬ runL noteB r + 1 < r.length + 1 by omega)]; rfl
set_option maxRecDepth 100000 in
set_option maxHeartbeats 8000000 in
theorem readTree_impl_long (S : ByteArray) (w : World) (hS : S.size ≤ 1048576) (hs : 20000 < S.size) :
    Calls Try.prog 5 #[.string S] w fun e w' => ResP w.heap.size (RR.err 1 0) e w' ∧ Below w.heap.size w w' := by
  go_enter Try.func5, Try.ntmps5
  go_wp2_with fail
  go_step3
  go_wp2_with fail
  rw [Exit.noGoto_ret]
  refine bodyPost_ret (v := .agg #[.int .i64 1, .int .i64 0, .slice none 0 0]) ?_ rfl ⟨rfl, below_alloc _ _⟩
  simp [results, Try.results5, go_sem]
/-- A result's form: what it says bears a change of lower blocks. -/
theorem res_form {base : Nat} {R : RR} {e : Ending} {w : World} (h : ResP base R e w) : ∃ f0 f1 va vn vc, e = .returned (.agg #[.int .i64 f0, .int .i64 f1, .slice va vn vc]) ∧
    ∀ (base' _n : Nat) (w' : World), base' ≤ base → (∀ g, base ≤ g → w'.heap[g]? = w.heap[g]?) → ResP base' R (.returned (.agg #[.int .i64 f0, .int .i64 f1, .slice va vn vc])) w' := by
  rcases R with ⟨c, q⟩ | ns
  · exact ⟨c, q, none, 0, 0, h, fun _ _ _ _ _ => rfl⟩
  · obtain ⟨v, rfl, ho⟩ := h
    obtain ⟨va, vc, rfl⟩ := own_shape ho
    refine ⟨0, 0, va, _, vc, rfl, fun base' _ w' hb hk => ⟨_, rfl, ?_⟩⟩
    exact own_base (own_other' ho (fun g hg => hk g (ho.lt g hg).1)) hb
theorem tail_facts {S : ByteArray} {i : Nat} (h : i < S.size) : ∃ T : ByteArray, S.extract i S.size = T ∧ T.data.toList = S.data.toList.drop i ∧ T.size = S.size - i ∧ ∃ h0 : 0 < T.size, T[0] = S[i] := by
  obtain ⟨U, h1, h2, h3⟩ := tail_ex S i (by omega)
  refine ⟨U, by rw [show S.size = U.size + i by omega]; exact h1, h3, by omega, by omega, ?_⟩
  have h0 : 0 < U.size := by omega
  have := at_list h0
  rw [h3, List.getElem?_drop, Nat.add_zero, at_list h] at this
  exact (Option.some.inj this).symm
set_option maxRecDepth 100000 in
set_option maxHeartbeats 8000000 in
theorem readTree_impl (S : ByteArray) (R : RR) (w : World) (hs : S.size ≤ 20000) (hR : Run S.data.toList ⟨0, [], []⟩ R) :
    Calls Try.prog 5 #[.string S] w fun e w' => ResP w.heap.size R e w' ∧ Below w.heap.size w w' := by
  have HR := hidG hR
  clear hR
  go_enter Try.func5, Try.ntmps5
  go_wp2_with fail
  go_step3
  go_wp2_with fail
  go_step3
  go_wp2_with fail
  go_loopw [4] (fun av wr => ∃ st : RS, av = .int .i64 (st.i : Nat) ∧ Inv S.size st ∧ Run S.data.toList st R ∧ TR (w.heap.size + 1) (w.heap.size + 1) st.ns st.op wr ∧ Bx wr w.heap.size [.int .i64 0, .int .i64 0, .slice none 0 0] ∧ Below w.heap.size w wr ∧ w.heap.size + 2 ≤ wr.heap.size) (fun av _ => S.size - (intOf av).toNat)
  case atStart => exact ⟨⟨0, [], []⟩, rfl, inv_new _, HR.out, tr_new w, (bx_new w _ _).alloc _, (below_alloc _ _).alloc (by simp) _, by simp⟩
  case round =>
    obtain ⟨st, rfl, hin, hrun, htr, hbx, hbe, hsz⟩ := hrel
    have HIN := hidG hin
    have HRUN := hidG hrun
    have HTR := hidG htr
    have HX := hidG hbx
    have HB := hidG hbe
    have hi20 : st.i ≤ 20000 := by have := hin.i; omega
    have hiS := hin.i
    obtain ⟨c0, c1, c2⟩ := hbx.c3
    have g0 := hbx.frozen 0
    have g1 := hbx.frozen 1
    have g2 := hbx.frozen 2
    clear hin hrun htr hbx hbe
    by_cases hlt : st.i < S.size
    · have hstep := step_c hlt
      unfold stepC at hstep
      by_cases hbl : blankB S[st.i] = true
      · rw [if_pos hbl] at hstep
        have HN := hidG (HRUN.out.go hstep)
        have HK : Hid (tokB S[st.i] = 1) := by
          unfold blankB at hbl
          simp only [Bool.or_eq_true, decide_eq_true_eq] at hbl
          unfold Hid tokB; rw [if_pos (by omega)]
        clear hstep hbl c0 c1 c2 g0 g1 g2
        go_wp2_with (go_at_call 11; refine (tokenBegun_any S[st.i] _).mono ?_; rintro e w' ⟨rfl, rfl⟩; rw [HK.out])
        go_roundw
        case rel => exact ⟨⟨st.i + 1, st.ns, st.op⟩, by go_num, inv_at HIN.out hlt, HN.out, HTR.out, HX.out, HB.out, hsz⟩
        case measure => simp [intOf]; omega
      rw [if_neg hbl] at hstep
      have hbl' : blankB S[st.i] = false := by simpa using hbl
      have hb4 : ¬ (S[st.i].toNat = 32 ∨ S[st.i].toNat = 9 ∨ S[st.i].toNat = 10 ∨ S[st.i].toNat = 13) := by
        have := hbl'
        unfold blankB at this
        simp only [Bool.or_eq_false_iff, decide_eq_false_iff_not] at this
        omega
      obtain ⟨T, hT1, hT2, hT3, hT0, hT4⟩ := tail_facts hlt
      have HT1 := hidG hT1
      by_cases h59 : S[st.i].toNat = 59
      · rw [if_pos h59] at hstep
        have HN := hidG (HRUN.out.go hstep)
        have HK : Hid (tokB S[st.i] = 2) := by unfold Hid tokB; rw [if_neg hb4, if_pos h59]
        have hix := idx10 T.data.toList
        obtain ⟨m, hm⟩ : ∃ m, runL noteB (S.data.toList.drop st.i) = m := ⟨_, rfl⟩
        have hml := runL_le noteB (S.data.toList.drop st.i)
        rw [hT2, hm, List.length_drop, ← Lib.size_eq] at hix
        rw [hm, List.length_drop, ← Lib.size_eq] at hml
        rw [hm] at HN
        have hm0 : 0 < m := by
          rw [← hm, drop_at hlt]; unfold runL; rw [if_pos (by unfold noteB; rw [h59]; rfl)]; omega
        clear hstep hbl hbl' hb4 h59 hT1 hT4
        by_cases hmm : m < S.size - st.i
        · rw [if_pos hmm] at hix
          have HIX : Hid (Lib.indexByte T.data.toList 10 = (m : Int)) := by unfold Hid; rw [hT2]; exact hix
          clear hix hm hT2 c0 c1 c2 g0 g1 g2
          go_wp2_with (first | (go_at_call 11; refine (tokenBegun_any S[st.i] _).mono ?_; rintro e w' ⟨rfl, rfl⟩; rw [HK.out]) | (go_at_call 12; rw [HT1.out]; refine (strIndex_any T _ _).mono ?_; rintro e w' ⟨rfl, rfl⟩; rw [show (10 : Int).toNat.toUInt8 = 10 from rfl, HIX.out]))
          go_roundw
          case rel => exact ⟨⟨st.i + m, st.ns, st.op⟩, by go_num, inv_at HIN.out (by omega), HN.out, HTR.out, HX.out, HB.out, hsz⟩
          case measure => simp [intOf]; omega
        · rw [if_neg hmm] at hix
          have HIX : Hid (Lib.indexByte T.data.toList 10 = -1) := by unfold Hid; rw [hT2]; exact hix
          have HEND := HN.out.fin (step_end (S := S) (st := ⟨st.i + m, st.ns, st.op⟩) (by show ¬ st.i + m < S.size; omega))
          clear hix hm hT2 c0 c1 c2 g0 g1 g2
          dsimp only at HEND
          have HEN := hidG HEND
          clear HEND
          go_wp2_with (first | (go_at_call 11; refine (tokenBegun_any S[st.i] _).mono ?_; rintro e w' ⟨rfl, rfl⟩; rw [HK.out]) | (go_at_call 12; rw [HT1.out]; refine (strIndex_any T _ _).mono ?_; rintro e w' ⟨rfl, rfl⟩; rw [show (10 : Int).toNat.toUInt8 = 10 from rfl, HIX.out]) | (go_at_call 16; refine (result_any _ _ S.size st _ HTR.out HIN.out (by omega)).mono ?_; rintro e w2 ⟨hres, hb2⟩; obtain ⟨f0, f1, va, vn, vc, rfl, hrp⟩ := res_form hres; have HRP := hidG hrp; clear hrp; have hx2 := HX.out.below (N := w.heap.size + 1) (by omega) hb2; have HX2 := hidG hx2; have HB2 : Hid (Below w.heap.size w w2) := HB.out.trans (hb2.mono (by omega)); obtain ⟨c0, c1, c2⟩ := hx2.c3; have g0 := hx2.frozen 0; have g1 := hx2.frozen 1; have g2 := hx2.frozen 2; clear hb2 hx2 hres))
          have hx4 := (((HX2.out.set 0 (.int .i64 f0)).set 1 (.int .i64 f1)).set 2 (.slice va vn vc))
          obtain ⟨e0, e1, e2⟩ := hx4.c3
          try rw [Exit.noGoto_ret]
          refine bodyPost_ret (v := .agg #[.int .i64 f0, .int .i64 f1, .slice va vn vc]) ?_ rfl ⟨?_, (((HB2.out.setCell (p := ⟨w.heap.size, 0, none⟩) (Nat.le_refl _) _).setCell (p := ⟨w.heap.size, 1, none⟩) (Nat.le_refl _) _).setCell (p := ⟨w.heap.size, 2, none⟩) (Nat.le_refl _) _)⟩
          · clear c0 c1 c2 g0 g1 g2
            simp [results, Try.results5, go_sem, e0, e1, e2]
          · have h5 := HRP.out (w.heap.size) w.heap.size ((((w2.setCell ⟨w.heap.size, 0, none⟩ (.int .i64 f0)).setCell ⟨w.heap.size, 1, none⟩ (.int .i64 f1)).setCell ⟨w.heap.size, 2, none⟩ (.slice va vn vc))) (by omega) (fun g hg => by rw [Below.heap_setCell _ _ _ g (by show g ≠ w.heap.size; omega), Below.heap_setCell _ _ _ g (by show g ≠ w.heap.size; omega), Below.heap_setCell _ _ _ g (by show g ≠ w.heap.size; omega)])
            rw [HEN.out] at h5; exact h5
      rw [if_neg h59] at hstep
      by_cases h41 : S[st.i].toNat = 41
      · rw [if_pos h41] at hstep
        have HK : Hid (tokB S[st.i] = 3) := by unfold Hid tokB; rw [if_neg hb4, if_neg h59, if_pos h41]
        clear hbl hbl' hb4 h59 h41 hT1 hT2 hT4
        unfold closeM at hstep
        cases hop : st.op with
        | nil =>
          rw [hop] at hstep
          have HE := hidG (HRUN.out.fin hstep)
          have HTR0 : Hid (TR (w.heap.size + 1) (w.heap.size + 1) st.ns [] wr) := by unfold Hid; rw [← hop]; exact HTR.out
          clear hstep hop
          go_wp2_with (first | (go_at_call 11; refine (tokenBegun_any S[st.i] _).mono ?_; rintro e w' ⟨rfl, rfl⟩; rw [HK.out]) | (go_at_call 13; refine (close_no _ _ st.ns _ HTR0.out).mono ?_; rintro e w' ⟨rfl, rfl⟩))
          have hx4 := (((HX.out.set 0 (.int .i64 4)).set 1 (.int .i64 (st.i : Nat))).set 2 (.slice none 0 0))
          obtain ⟨e0, e1, e2⟩ := hx4.c3
          try rw [Exit.noGoto_ret]
          refine bodyPost_ret (v := .agg #[.int .i64 4, .int .i64 (st.i : Nat), .slice none 0 0]) ?_ rfl ⟨ResP.err HE.out, (((HB.out.setCell (p := ⟨w.heap.size, 0, none⟩) (Nat.le_refl _) _).setCell (p := ⟨w.heap.size, 1, none⟩) (Nat.le_refl _) _).setCell (p := ⟨w.heap.size, 2, none⟩) (Nat.le_refl _) _)⟩
          clear c0 c1 c2 g0 g1 g2
          simp [results, Try.results5, go_sem, e0, e1, e2]
        | cons j r =>
          rw [hop] at hstep
          have HN := hidG (HRUN.out.go hstep)
          have HIN2 : Hid (Inv S.size ⟨st.i + 1, st.ns, r⟩) := inv_cut HIN.out hop hlt
          have HTR0 : Hid (TR (w.heap.size + 1) (w.heap.size + 1) st.ns (j :: r) wr) := by unfold Hid; rw [← hop]; exact HTR.out
          have hrl : r.length ≤ 200 := by have := HIN.out.o; rw [hop, List.length_cons] at this; omega
          clear hstep hop c0 c1 c2 g0 g1 g2
          go_wp2_with (first | (go_at_call 11; refine (tokenBegun_any S[st.i] _).mono ?_; rintro e w' ⟨rfl, rfl⟩; rw [HK.out]) | (go_at_call 13; refine (close_yes _ _ j r st.ns _ HTR0.out hrl).mono ?_; rintro e w2 ⟨rfl, htr2, hb2⟩; have HTR2 := hidG htr2; have HB2 := hidG hb2; clear htr2 hb2))
          go_roundw
          case rel => exact ⟨⟨st.i + 1, st.ns, r⟩, by go_num, HIN2.out, HN.out, HTR2.out, HX.out.below (N := w.heap.size + 1) (by omega) HB2.out, HB.out.trans (HB2.out.mono (by omega)), by have := HB2.out.size; omega⟩
          case measure => simp [intOf]; omega
      rw [if_neg h41] at hstep
      have hsc : ∀ w, Calls Try.prog 14 #[.int .i64 (tokB S[st.i]), .string T] w fun e w' => e = implR (nodeL (S.data.toList.drop st.i)) ∧ Below w.heap.size w w' := fun w => by
        have := scanNode_any T w (by omega) hT0 (by rw [hT4]; exact hbl') (by rw [hT4]; exact h59) (by rw [hT4]; exact h41)
        rw [hT4, hT2] at this; exact this
      obtain ⟨K, hK⟩ : ∃ K, tokB S[st.i] = K := ⟨_, rfl⟩
      rw [hK] at hsc
      have HK := hidG hK
      have hk3 : K ≠ 1 ∧ K ≠ 2 ∧ K ≠ 3 := by
        rw [← hK]; unfold tokB
        rw [if_neg hb4, if_neg h59, if_neg h41]
        repeat' split
        all_goals decide
      have y1 : (K == 1) = false := by rw [beq_eq_false_iff_ne]; exact hk3.1
      have y2 : (K == 2) = false := by rw [beq_eq_false_iff_ne]; exact hk3.2.1
      have y3 : (K == 3) = false := by rw [beq_eq_false_iff_ne]; exact hk3.2.2
      clear hbl hbl' hb4 h59 h41 hT1 hT4 hK hk3
      cases hnl : nodeL (S.data.toList.drop st.i) with
      | none =>
        rw [hnl] at hstep hsc
        have HSC := hidG hsc
        have HE := hidG (HRUN.out.fin hstep)
        clear hstep hnl hsc hT2 c0 c1 c2 g0 g1 g2
        go_wp2_with (first | (go_at_call 11; refine (tokenBegun_any S[st.i] _).mono ?_; rintro e w' ⟨rfl, hw⟩; have hw2 := hw.symm; subst hw2; clear hw; rw [HK.out]) | (go_at_call 14; rw [HT1.out]; refine (HSC.out _).mono ?_; rintro e w2 ⟨he, hb2⟩; unfold implR resN at he; subst he; have hx2 := HX.out.below (N := wr.heap.size) (by omega) hb2; have HX2 := hidG hx2; have HB2 : Hid (Below w.heap.size w w2) := HB.out.trans (hb2.mono (by omega)); have hs2 : w.heap.size + 2 ≤ w2.heap.size := (by have := hb2.size; omega); have hl2 : w.heap.size < w2.heap.size := (by omega); have hl3 : w.heap.size + 1 < w2.heap.size := (by omega); obtain ⟨c0, c1, c2⟩ := hx2.c3; have g0 := hx2.frozen 0; have g1 := hx2.frozen 1; have g2 := hx2.frozen 2; clear hb2 hx2))
        have hx4 := ((((HX2.out.set 0 (.int .i64 2)).set 1 (.int .i64 (st.i : Nat))).set 2 (.slice none 0 0)).alloc (.cells #[.int .i64 0, .string ⟨#[]⟩, .int .i64 0, .int .i64 0] 35))
        obtain ⟨e0, e1, e2⟩ := hx4.c3
        try rw [Exit.noGoto_ret]
        refine bodyPost_ret (v := .agg #[.int .i64 2, .int .i64 (st.i : Nat), .slice none 0 0]) ?_ rfl ⟨ResP.err HE.out, ((((HB2.out.setCell (p := ⟨w.heap.size, 0, none⟩) (Nat.le_refl _) _).setCell (p := ⟨w.heap.size, 1, none⟩) (Nat.le_refl _) _).setCell (p := ⟨w.heap.size, 2, none⟩) (Nat.le_refl _) _).alloc (by simp; omega) _)⟩
        clear c0 c1 c2 g0 g1 g2
        simp [results, Try.results5, go_sem, e0, e1, e2]
      | some x =>
        obtain ⟨k, t, n⟩ := x
        have hns := nodeL_some hnl
        rw [List.length_drop, ← Lib.size_eq] at hns
        rw [hnl] at hstep hsc
        have HSC := hidG hsc
        clear hnl hsc hT2 c0 c1 c2 g0 g1 g2
        simp only [goM] at hstep
        have hn0 : (((n : Nat) : Int) == 0) = false := by rw [beq_eq_false_iff_ne]; omega
        by_cases hE : addE st.ns st.op k = 0
        · rw [if_pos hE] at hstep
          have HN := hidG (HRUN.out.go hstep)
          have HIN2 : Hid (Inv S.size ⟨st.i + n, addN st.ns st.op k (strOf t) st.i, addO st.ns st.op k⟩) := inv_add HIN.out (by omega) hE
          have HEE := hidG hE
          clear hstep hE
          go_wp2_with (first | (go_at_call 11; refine (tokenBegun_any S[st.i] _).mono ?_; rintro e w' ⟨rfl, hw⟩; have hw2 := hw.symm; subst hw2; clear hw; rw [HK.out]) | (go_at_call 14; rw [HT1.out]; refine (HSC.out _).mono ?_; rintro e w2 ⟨he, hb2⟩; unfold implR resN at he; subst he; have HTR2 := hidG (HTR.out.below hb2); have hx2 := HX.out.below (N := wr.heap.size) (by omega) hb2; have HX2 := hidG hx2; have HB2 : Hid (Below w.heap.size w w2) := HB.out.trans (hb2.mono (by omega)); have hs2 : w.heap.size + 2 ≤ w2.heap.size := (by have := hb2.size; omega); have hl2 : w.heap.size < w2.heap.size := (by omega); have hl3 : w.heap.size + 1 < w2.heap.size := (by omega); clear hb2 hx2) | (go_at_call 15; refine (add_any (w.heap.size + 1) (w.heap.size + 1) S.size st k (strOf t) (st.i : Nat) _ (HTR2.out.below (below_alloc _ _)) HIN.out (by simp; omega)).mono ?_; rintro e w3 ⟨rfl, htr3, hb3⟩; rw [HEE.out]; have HTR3 := hidG (htr3 HEE.out); have HX3 := hidG ((HX2.out.alloc (.cells #[.int .i64 k, .string (strOf t), .int .i64 0, .int .i64 (st.i : Nat)] 35)).below (N := w.heap.size + 1) (by omega) hb3); have HB3 : Hid (Below w.heap.size w w3) := (HB2.out.alloc (by omega) _).trans (hb3.mono (by omega)); have hs3 : w.heap.size + 2 ≤ w3.heap.size := (by have := hb3.size; simp at this; omega); clear htr3 hb3))
          go_roundw
          case rel => exact ⟨⟨st.i + n, addN st.ns st.op k (strOf t) st.i, addO st.ns st.op k⟩, by go_num, HIN2.out, HN.out, HTR3.out, HX3.out, HB3.out, hs3⟩
          case measure => simp [intOf]; omega
        · rw [if_neg hE] at hstep
          obtain ⟨E, hEE⟩ : ∃ E, addE st.ns st.op k = E := ⟨_, rfl⟩
          rw [hEE] at hstep hE
          have HE := hidG (HRUN.out.fin hstep)
          have HEE := hidG hEE
          have hE0 : (E == 0) = false := by rw [beq_eq_false_iff_ne]; exact hE
          clear hstep hE hEE
          go_wp2_with (first | (go_at_call 11; refine (tokenBegun_any S[st.i] _).mono ?_; rintro e w' ⟨rfl, hw⟩; have hw2 := hw.symm; subst hw2; clear hw; rw [HK.out]) | (go_at_call 14; rw [HT1.out]; refine (HSC.out _).mono ?_; rintro e w2 ⟨he, hb2⟩; unfold implR resN at he; subst he; have HTR2 := hidG (HTR.out.below hb2); have hx2 := HX.out.below (N := wr.heap.size) (by omega) hb2; have HX2 := hidG hx2; have HB2 : Hid (Below w.heap.size w w2) := HB.out.trans (hb2.mono (by omega)); have hs2 : w.heap.size + 2 ≤ w2.heap.size := (by have := hb2.size; omega); have hl2 : w.heap.size < w2.heap.size := (by omega); have hl3 : w.heap.size + 1 < w2.heap.size := (by omega); clear hb2 hx2) | (go_at_call 15; refine (add_any (w.heap.size + 1) (w.heap.size + 1) S.size st k (strOf t) (st.i : Nat) _ (HTR2.out.below (below_alloc _ _)) HIN.out (by simp; omega)).mono ?_; rintro e w3 ⟨rfl, htr3, hb3⟩; rw [HEE.out]; have hx3 := ((HX2.out.alloc (.cells #[.int .i64 k, .string (strOf t), .int .i64 0, .int .i64 (st.i : Nat)] 35)).below (N := w.heap.size + 1) (by omega) hb3); have HX3 := hidG hx3; have HB3 : Hid (Below w.heap.size w w3) := (HB2.out.alloc (by omega) _).trans (hb3.mono (by omega)); obtain ⟨c0, c1, c2⟩ := hx3.c3; have g0 := hx3.frozen 0; have g1 := hx3.frozen 1; have g2 := hx3.frozen 2; clear htr3 hb3 hx3))
          have hx4 := (((HX3.out.set 0 (.int .i64 E)).set 1 (.int .i64 (st.i : Nat))).set 2 (.slice none 0 0))
          obtain ⟨e0, e1, e2⟩ := hx4.c3
          try rw [Exit.noGoto_ret]
          refine bodyPost_ret (v := .agg #[.int .i64 E, .int .i64 (st.i : Nat), .slice none 0 0]) ?_ rfl ⟨ResP.err HE.out, ((((HB3.out.setCell (p := ⟨w.heap.size, 0, none⟩) (Nat.le_refl _) _).setCell (p := ⟨w.heap.size, 1, none⟩) (Nat.le_refl _) _).setCell (p := ⟨w.heap.size, 2, none⟩) (Nat.le_refl _) _))⟩
          clear c0 c1 c2 g0 g1 g2
          simp [results, Try.results5, go_sem, e0, e1, e2]
    · have HEND := HRUN.out.fin (step_end hlt)
      have HEN := hidG HEND
      clear HEND c0 c1 c2 g0 g1 g2
      go_wp2_with (go_at_call 16; refine (result_any _ _ S.size st _ HTR.out HIN.out (by omega)).mono ?_; rintro e w2 ⟨hres, hb2⟩; obtain ⟨f0, f1, va, vn, vc, rfl, hrp⟩ := res_form hres; have HRP := hidG hrp; clear hrp; have hx2 := HX.out.below (N := w.heap.size + 1) (by omega) hb2; have HX2 := hidG hx2; have HB2 : Hid (Below w.heap.size w w2) := HB.out.trans (hb2.mono (by omega)); obtain ⟨c0, c1, c2⟩ := hx2.c3; have g0 := hx2.frozen 0; have g1 := hx2.frozen 1; have g2 := hx2.frozen 2; clear hb2 hx2 hres)
      have hx4 := (((HX2.out.set 0 (.int .i64 f0)).set 1 (.int .i64 f1)).set 2 (.slice va vn vc))
      obtain ⟨e0, e1, e2⟩ := hx4.c3
      try rw [Exit.noGoto_ret]
      refine bodyPost_ret (v := .agg #[.int .i64 f0, .int .i64 f1, .slice va vn vc]) ?_ rfl ⟨?_, (((HB2.out.setCell (p := ⟨w.heap.size, 0, none⟩) (Nat.le_refl _) _).setCell (p := ⟨w.heap.size, 1, none⟩) (Nat.le_refl _) _).setCell (p := ⟨w.heap.size, 2, none⟩) (Nat.le_refl _) _)⟩
      · clear c0 c1 c2 g0 g1 g2
        simp [results, Try.results5, go_sem, e0, e1, e2]
      · have h5 := HRP.out (w.heap.size) w.heap.size ((((w2.setCell ⟨w.heap.size, 0, none⟩ (.int .i64 f0)).setCell ⟨w.heap.size, 1, none⟩ (.int .i64 f1)).setCell ⟨w.heap.size, 2, none⟩ (.slice va vn vc))) (by omega) (fun g hg => by rw [Below.heap_setCell _ _ _ g (by show g ≠ w.heap.size; omega), Below.heap_setCell _ _ _ g (by show g ≠ w.heap.size; omega), Below.heap_setCell _ _ _ g (by show g ≠ w.heap.size; omega)])
        rw [HEN.out] at h5; exact h5
end Go.Proofs.Ytdngpnlbhadbpaa

import Derived.Test.YtdngpnlbhadbpaaDoorTrTk
import Derived.Test.YtdngpnlbhadbpaaDoorTrL
namespace Go.Proofs.YtdngpnlbhadbpaaDoor
open Go.ChangeShapes Go.WideShapes Go.ChangeAt Go.RowKit
theorem OL.below {base b : Nat} {L : List Int} {w w' : World} (h : OL base b L w) (hb : Below w.heap.size w w') : OL base b L w' := by
  obtain ⟨h1, v, h2, h3, h4⟩ := h
  have hlt : b < w.heap.size := (Array.getElem?_eq_some_iff.1 h2).1
  exact ⟨h1, v, (hb.block b hlt).trans h2, own_below h3 hb, h4⟩
theorem OL.new (w : World) : OL w.heap.size w.heap.size [] (w.alloc (.cells #[.slice none 0 0] 64)) :=
  ⟨Nat.le_refl _, .slice none 0 0, Array.getElem?_push_size, ⟨rfl, .inl ⟨rfl, rfl⟩⟩, by simp [Value.ownBlock]⟩
theorem OL.shape {base b : Nat} {L : List Int} {w : World} (h : OL base b L w) : ∃ p c, w.cell? ⟨b, 0, none⟩ = some (.slice p L.length c) ∧ b < w.heap.size := by
  obtain ⟨h1, v, h2, h3, h4⟩ := h
  obtain ⟨p, c, rfl⟩ := own_shape h3
  exact ⟨p, c, by rw [Lib.cell_of_heap h2]; rfl, (Array.getElem?_eq_some_iff.1 h2).1⟩
set_option maxRecDepth 100000 in
set_option maxHeartbeats 8000000 in
theorem fitsTogether_row (b c : Nat) (ns : List (Nd × Int)) (mx : Int) (w : World) (hn : ns.length ≤ 8000) (hc : ns.length ≤ c) (hm : c ≤ maxLen) (hb : b < w.heap.size) (hN : NodesAt w b ns)
    (hmx : w.cell? ⟨0, 0, none⟩ = some (.int .i64 mx)) (hg : 0 < w.heap.size) :
    Calls Tryd.prog 18 #[.slice (some ⟨b, 0, none⟩) ns.length c] w fun e w' => e = .returned (.bool (fitF (ns.map Prod.fst) 0 [])) ∧ Below w.heap.size w w' := by
  unfold maxLen at hm
  have z : decide ((8000 : Int) < (ns.length : Int)) = false := by rw [decide_eq_false_iff_not]; omega
  have HN := hidG hN
  obtain ⟨R, hR⟩ : ∃ R, fitF (ns.map Prod.fst) 0 [] = R := ⟨_, rfl⟩
  have HR := hidG hR
  have HMW := hidG hmx
  rw [hR]
  clear hN hR hmx
  go_enter Tryd.func18, Tryd.ntmps18
  go_wp2_with fail
  go_loopw [3, 12] (fun m i wr => ∃ (j zz : Nat) (L : List Int), j ≤ ns.length ∧ zz ≤ 20000 ∧ i = .int .i64 j ∧ m = .int .i64 zz ∧ L.length ≤ 200 ∧ posL L ∧ fitF ((ns.map Prod.fst).drop j) zz L = R ∧ OL w.heap.size w.heap.size L wr ∧ Below w.heap.size w wr) (fun _ i _ => ns.length - (intOf i).toNat)
  case atStart => exact ⟨0, 0, [], Nat.zero_le _, Nat.zero_le _, rfl, rfl, Nat.zero_le _, ⟨fun x hx => (by simp at hx), fun a r e => (by simp at e)⟩, HR.out, OL.new w, below_alloc _ _⟩
  case round =>
    obtain ⟨j, zz, L, hj, hzz, rfl, rfl, hLl, hpos, hf, hol, hB⟩ := hrel
    have HB := hidG hB
    have HPL := hidG hpos
    have HOL := hidG hol
    clear hpos hol
    by_cases hlt : j < ns.length
    · obtain ⟨⟨k0, k1, k2, k3⟩, htx, hkd⟩ := HN.out j hlt
      rw [← hB.cell (p := ⟨b, j * 4, none⟩) hb] at k0
      rw [← hB.cell (p := ⟨b, j * 4 + 1, none⟩) hb] at k1
      rw [← hB.cell (p := ⟨b, j * 4 + 2, none⟩) hb] at k2
      rw [← hB.cell (p := ⟨b, j * 4 + 3, none⟩) hb] at k3
      rw [drop_nds hlt] at hf
      obtain ⟨q, hq⟩ : ∃ q, ns[j].2 = q := ⟨_, rfl⟩
      obtain ⟨nd, hnd⟩ : ∃ nd, ns[j].1 = nd := ⟨_, rfl⟩
      rw [hnd] at k0 k1 k2 hf htx hkd
      rw [hq] at k3
      rw [fitF_cons] at hf
      have HF := hidG hf
      have HMX : Hid ((wr.alloc (.cells #[.int .i64 nd.kind, .string nd.text, .int .i64 nd.kids, .int .i64 q] 31)).cell? ⟨0, 0, none⟩ = some (.int .i64 mx)) :=
        ((below_alloc wr _).cell (p := ⟨0, 0, none⟩) (Nat.lt_of_lt_of_le hg hB.size)).trans ((hB.cell (p := ⟨0, 0, none⟩) hg).trans HMW.out)
      clear hq hnd hf hB
      by_cases h1 : 20000 < zz + nd.text.size
      · have F : Hid (R = false) := by unfold Hid; rw [← HF.out, if_pos (.inl h1)]
        have y1 : decide ((20000 : Int) < (zz : Int) + (nd.text.size : Int)) = true := by rw [decide_eq_true_iff]; omega
        clear h1
        go_wp2_with fail
        go_ret
        exact ⟨ret_bool F.out.symm, HB.out.alloc HB.out.size _⟩
      have y1 : decide ((20000 : Int) < (zz : Int) + (nd.text.size : Int)) = false := by rw [decide_eq_false_iff_not]; omega
      by_cases h2 : nodeOk nd = true
      · have HNO := hidG h2
        have h0k := (nodeOk_split h2).1
        clear h2
        by_cases h4 : nd.kind = 1
        · have H4 := hidG h4
          have y4 : (nd.kind == 1) = true := by rw [beq_iff_eq]; exact h4
          clear h4
          by_cases h9 : L.length = 200
          · have F : Hid (R = false) := by unfold Hid; rw [← HF.out, if_pos (.inr (.inr ⟨H4.out, h9⟩))]
            have y9 : ((L.length : Int) == 200) = true := by rw [beq_iff_eq]; omega
            clear h9
            go_wp2_with (first | (go_at_call 37; refine (isRead_any nd q mx _ (by omega) HMX.out (by simp)).mono ?_; rintro e w1 ⟨rfl, hb1⟩; rw [HNO.out]; have hx := (bx_new wr [.int .i64 nd.kind, .string nd.text, .int .i64 nd.kids, .int .i64 q] 31).below (by simp) hb1; have HX := hidG hx; have HO1 := hidG ((HOL.out.below (below_alloc wr (.cells #[.int .i64 nd.kind, .string nd.text, .int .i64 nd.kids, .int .i64 q] 31))).below hb1); have HB1 : Hid (Below w.heap.size w w1) := ((HB.out.alloc HB.out.size _).trans (hb1.mono (by have := HB.out.size; simp; omega))); have HS1 : Hid (wr.heap.size < w1.heap.size) := (by have := hb1.size; simp at this; exact this); obtain ⟨c0, c1, c2, c3⟩ := hx.c4; obtain ⟨pl, cl, cL, hlL⟩ := HO1.out.shape; clear hb1 hx))
            go_ret
            exact ⟨ret_bool F.out.symm, HB1.out⟩
          · have y9 : ((L.length : Int) == 200) = false := by rw [beq_eq_false_iff_ne]; omega
            have HFS : Hid (fitF ((ns.map Prod.fst).drop (j + 1)) (zz + nd.text.size) (stepL nd L) = R) := by
              have := HF.out
              rw [if_neg (by rintro (h | h | h); exact h1 h; rw [HNO.out] at h; cases h; exact h9 h.2)] at this; exact this
            have HSL : Hid ((stepL nd L).length ≤ 200) := by
              have e1 := popZ_len (pushL nd L)
              have e2 := pushL_len nd L
              rw [if_pos H4.out] at e2
              show (popZ (pushL nd L)).length ≤ 200
              omega
            clear h9
            go_wp2_with (first | (go_at_call 37; refine (isRead_any nd q mx _ (by omega) HMX.out (by simp)).mono ?_; rintro e w1 ⟨rfl, hb1⟩; rw [HNO.out]; have hx := (bx_new wr [.int .i64 nd.kind, .string nd.text, .int .i64 nd.kids, .int .i64 q] 31).below (by simp) hb1; have HX := hidG hx; have HO1 := hidG ((HOL.out.below (below_alloc wr (.cells #[.int .i64 nd.kind, .string nd.text, .int .i64 nd.kids, .int .i64 q] 31))).below hb1); have HB1 : Hid (Below w.heap.size w w1) := ((HB.out.alloc HB.out.size _).trans (hb1.mono (by have := HB.out.size; simp; omega))); have HS1 : Hid (wr.heap.size < w1.heap.size) := (by have := hb1.size; simp at this; exact this); obtain ⟨c0, c1, c2, c3⟩ := hx.c4; obtain ⟨pl, cl, cL, hlL⟩ := HO1.out.shape; clear hb1 hx) | (go_at_call 38; refine (take_any w.heap.size w.heap.size L nd q _ HO1.out hLl HPL.out HB1.out.size).mono ?_; rintro e w2 ⟨rfl, hol2, hb2, _⟩; have HO2 := hidG hol2; have HB2 : Hid (Below w.heap.size w w2) := HB1.out.trans hb2; clear hol2 hb2))
            go_roundw
            case rel => exact ⟨j + 1, zz + nd.text.size, stepL nd L, by omega, by omega, by go_num, by go_num, HSL.out, stepL_pos HPL.out h0k hkd, HFS.out, HO2.out, HB2.out⟩
            case measure => simp [intOf]; omega
        · have H4 : Hid (¬ nd.kind = 1) := h4
          have y4 : (nd.kind == 1) = false := by rw [beq_eq_false_iff_ne]; exact h4
          clear h4
          have HFS : Hid (fitF ((ns.map Prod.fst).drop (j + 1)) (zz + nd.text.size) (stepL nd L) = R) := by
            have := HF.out
            rw [if_neg (by rintro (h | h | h); exact h1 h; rw [HNO.out] at h; cases h; exact H4.out h.1)] at this; exact this
          have HSL : Hid ((stepL nd L).length ≤ 200) := by
            have e1 := popZ_len (pushL nd L)
            have e2 := pushL_len nd L
            rw [if_neg H4.out] at e2
            show (popZ (pushL nd L)).length ≤ 200
            omega
          go_wp2_with (first | (go_at_call 37; refine (isRead_any nd q mx _ (by omega) HMX.out (by simp)).mono ?_; rintro e w1 ⟨rfl, hb1⟩; rw [HNO.out]; have hx := (bx_new wr [.int .i64 nd.kind, .string nd.text, .int .i64 nd.kids, .int .i64 q] 31).below (by simp) hb1; have HX := hidG hx; have HO1 := hidG ((HOL.out.below (below_alloc wr (.cells #[.int .i64 nd.kind, .string nd.text, .int .i64 nd.kids, .int .i64 q] 31))).below hb1); have HB1 : Hid (Below w.heap.size w w1) := ((HB.out.alloc HB.out.size _).trans (hb1.mono (by have := HB.out.size; simp; omega))); have HS1 : Hid (wr.heap.size < w1.heap.size) := (by have := hb1.size; simp at this; exact this); obtain ⟨c0, c1, c2, c3⟩ := hx.c4; obtain ⟨pl, cl, cL, hlL⟩ := HO1.out.shape; clear hb1 hx) | (go_at_call 38; refine (take_any w.heap.size w.heap.size L nd q _ HO1.out hLl HPL.out HB1.out.size).mono ?_; rintro e w2 ⟨rfl, hol2, hb2, _⟩; have HO2 := hidG hol2; have HB2 : Hid (Below w.heap.size w w2) := HB1.out.trans hb2; clear hol2 hb2))
          go_roundw
          case rel => exact ⟨j + 1, zz + nd.text.size, stepL nd L, by omega, by omega, by go_num, by go_num, HSL.out, stepL_pos HPL.out h0k hkd, HFS.out, HO2.out, HB2.out⟩
          case measure => simp [intOf]; omega
      · have HNO : Hid (nodeOk nd = false) := by unfold Hid; simpa using h2
        have F : Hid (R = false) := by unfold Hid; rw [← HF.out, if_pos (.inr (.inl HNO.out))]
        clear h2
        go_wp2_with (first | (go_at_call 37; refine (isRead_any nd q mx _ (by omega) HMX.out (by simp)).mono ?_; rintro e w1 ⟨rfl, hb1⟩; rw [HNO.out]; have hx := (bx_new wr [.int .i64 nd.kind, .string nd.text, .int .i64 nd.kids, .int .i64 q] 31).below (by simp) hb1; have HX := hidG hx; have HO1 := hidG ((HOL.out.below (below_alloc wr (.cells #[.int .i64 nd.kind, .string nd.text, .int .i64 nd.kids, .int .i64 q] 31))).below hb1); have HB1 : Hid (Below w.heap.size w w1) := ((HB.out.alloc HB.out.size _).trans (hb1.mono (by have := HB.out.size; simp; omega))); have HS1 : Hid (wr.heap.size < w1.heap.size) := (by have := hb1.size; simp at this; exact this); obtain ⟨c0, c1, c2, c3⟩ := hx.c4; obtain ⟨pl, cl, cL, hlL⟩ := HO1.out.shape; clear hb1 hx))
        go_ret
        exact ⟨ret_bool F.out.symm, HB1.out⟩
    · have hje : j = ns.length := by omega
      rw [hje, List.drop_of_length_le (by simp)] at hf
      have F : Hid (R = L.isEmpty) := hf.symm
      obtain ⟨pl, cl, cL, hlL⟩ := HOL.out.shape
      clear hf hje
      rcases L with _ | ⟨a, r⟩
      · go_wp2_with fail
        go_ret
        exact ⟨ret_bool F.out.symm, HB.out⟩
      · have y : (((r.length : Int) + 1) == 0) = false := by rw [beq_eq_false_iff_ne]; omega
        go_wp2_with fail
        go_ret
        exact ⟨ret_bool F.out.symm, HB.out⟩
end Go.Proofs.YtdngpnlbhadbpaaDoor

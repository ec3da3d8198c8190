import Derived.Test.YtdngpnlbhadbpaaDoorTrRk
namespace Go.Proofs.YtdngpnlbhadbpaaDoor
open Go.ChangeShapes Go.WideShapes Go.ChangeAt Go.RowKit
theorem OL.new1 (w : World) : OL w.heap.size (w.heap.size + 1) [] ((w.alloc (.cells #[.pointer none, .slice none 0 0] 67)).alloc (.cells #[.slice none 0 0] 64)) := by
  refine ⟨by omega, .slice none 0 0, ?_, ⟨rfl, .inl ⟨rfl, rfl⟩⟩, by simp [Value.ownBlock]⟩
  have := Array.getElem?_push_size (xs := (w.alloc (.cells #[.pointer none, .slice none 0 0] 67)).heap) (x := Obj.cells #[.slice none 0 0] 64 (0, 0))
  rw [show (w.alloc (.cells #[.pointer none, .slice none 0 0] 67)).heap.size = w.heap.size + 1 by simp] at this
  exact this
theorem fitF_step {n : Nd} {r : List Nd} {z : Nat} {l : List Int} (h : fitF (n :: r) z l = true) : z + n.text.size ≤ 20000 ∧ nodeOk n = true ∧ ¬ (n.kind = 1 ∧ l.length = 200) ∧ fitF r (z + n.text.size) (stepL n l) = true := by
  rw [fitF_cons] at h
  split at h
  · cases h
  · rename_i hc
    refine ⟨by omega, ?_, fun e => hc (.inr (.inr e)), h⟩
    cases hk : nodeOk n with
    | true => rfl
    | false => exact absurd (.inr (.inl hk)) hc
theorem stepL_len {n : Nd} {l : List Int} (h : l.length ≤ 200) (h1 : ¬ (n.kind = 1 ∧ l.length = 200)) : (stepL n l).length ≤ 200 ∧ closedL n l ≤ 201 := by
  have e1 := popZ_len (pushL n l)
  have e2 := pushL_len n l
  unfold closedL stepL
  split at e2
  · rename_i hk
    have : l.length ≠ 200 := fun e => h1 ⟨hk, e⟩
    omega
  · omega
theorem cells_of {W : World} {g : Nat} {v0 v1 v2 v3 : Value} {t : TypeId} (h : W.heap[g]? = some (.cells #[v0, v1, v2, v3] t (0, 0))) : W.cell? ⟨g, 0, none⟩ = some v0 ∧ W.cell? ⟨g, 1, none⟩ = some v1 ∧ W.cell? ⟨g, 2, none⟩ = some v2 ∧ W.cell? ⟨g, 3, none⟩ = some v3 := by
  refine ⟨?_, ?_, ?_, ?_⟩ <;> rw [Lib.cell_of_heap h] <;> rfl
theorem byteCells_snoc (l : List UInt8) (c : UInt8) : Lib.byteCells l ++ [Value.int .u8 (c.toNat : Int)] = Lib.byteCells (l ++ [c]) := by simp [Lib.byteCells]
set_option maxRecDepth 100000 in
set_option maxHeartbeats 8000000 in
theorem rowText_row (b c : Nat) (ns : List (Nd × Int)) (mx : Int) (w : World) (hn : ns.length ≤ 8000) (hc : ns.length ≤ c) (hm : c ≤ maxLen) (hb : b < w.heap.size) (hN : NodesAt w b ns)
    (hmx : w.cell? ⟨0, 0, none⟩ = some (.int .i64 mx)) (hg : 0 < w.heap.size) (hfit : fitF (ns.map Prod.fst) 0 [] = true) :
    Calls Tryd.prog 19 #[.slice (some ⟨b, 0, none⟩) ns.length c] w fun e w' => e = .returned (.string (strOf (rowI (ns.map Prod.fst) []))) ∧ Below w.heap.size w w' := by
  unfold maxLen at hm
  have HN := hidG hN
  obtain ⟨R, hR⟩ : ∃ R, rowI (ns.map Prod.fst) [] = R := ⟨_, rfl⟩
  have HR := hidG hR
  have HMW := hidG hmx
  have HFT := hidG hfit
  rw [hR]
  clear hN hR hmx hfit
  go_enter Tryd.func19, Tryd.ntmps19
  go_wp2_with fail
  go_loopw [10] (fun iv wr => ∃ (j zz : Nat) (acc : List UInt8) (L : List Int), j ≤ ns.length ∧ zz ≤ 20000 ∧ iv = .int .i64 j ∧ L.length ≤ 200 ∧ posL L ∧ fitF ((ns.map Prod.fst).drop j) zz L = true ∧ acc ++ rowI ((ns.map Prod.fst).drop j) L = R ∧ acc.length ≤ j * 50000 ∧
      Lib.IsBuilderF 67 5 w.heap.size w.heap.size (Lib.byteCells acc) wr ∧ OL w.heap.size (w.heap.size + 1) L wr ∧ Below w.heap.size w wr) (fun iv _ => ns.length - (intOf iv).toNat)
  case atStart => exact ⟨0, 0, [], [], Nat.zero_le _, Nat.zero_le _, rfl, Nat.zero_le _, ⟨fun x hx => (by simp at hx), fun a r e => (by simp at e)⟩, HFT.out, HR.out, Nat.zero_le _, builderF_below (builderF_new w) (below_alloc _ _), OL.new1 w, (below_alloc w _).alloc (by simp) _⟩
  case round =>
    obtain ⟨j, zz, acc, L, hj, hzz, rfl, hLl, hpos, hf, hrr, hal, hbd, hol, hB⟩ := hrel
    have HB := hidG hB
    have HPL := hidG hpos
    have HOL := hidG hol
    have HBD := hidG hbd
    clear hpos hol hbd
    by_cases hlt : j < ns.length
    · obtain ⟨⟨k0, k1, k2, k3⟩, htx, hkd⟩ := HN.out j hlt
      rw [← hB.cell (p := ⟨b, j * 4, none⟩) hb] at k0
      rw [← hB.cell (p := ⟨b, j * 4 + 1, none⟩) hb] at k1
      rw [← hB.cell (p := ⟨b, j * 4 + 2, none⟩) hb] at k2
      rw [← hB.cell (p := ⟨b, j * 4 + 3, none⟩) hb] at k3
      rw [drop_nds hlt] at hf hrr
      obtain ⟨q, hq⟩ : ∃ q, ns[j].2 = q := ⟨_, rfl⟩
      obtain ⟨nd, hnd⟩ : ∃ nd, ns[j].1 = nd := ⟨_, rfl⟩
      rw [hnd] at k0 k1 k2 hf hrr htx hkd
      rw [hq] at k3
      obtain ⟨h1, h2, h9, hfs⟩ := fitF_step hf
      have h0k := (nodeOk_split h2).1
      have HFS := hidG hfs
      have hsl := stepL_len hLl h9
      have HSL := hidG hsl.1
      have hcl := hsl.2
      have HMX : Hid ((wr.alloc (.cells #[.int .i64 nd.kind, .string nd.text, .int .i64 nd.kids, .int .i64 q] 31)).cell? ⟨0, 0, none⟩ = some (.int .i64 mx)) :=
        ((below_alloc wr _).cell (p := ⟨0, 0, none⟩) (Nat.lt_of_lt_of_le hg hB.size)).trans ((hB.cell (p := ⟨0, 0, none⟩) hg).trans HMW.out)
      obtain ⟨tk, htk⟩ : ∃ tk, strOf (tokT nd.kind nd.text.data.toList) = tk := ⟨_, rfl⟩
      have HTK := hidG htk
      have HTL : Hid (tk.data.toList = tokT nd.kind nd.t) := by unfold Hid; rw [← htk, strOf_toList]; rfl
      have hts : tk.size ≤ 40002 := by
        have := tokT_len nd.kind nd.text.data.toList
        rw [← strOf_toList (tokT nd.kind nd.text.data.toList), htk, ← Lib.size_eq, ← Lib.size_eq] at this
        omega
      have HTS := hidG hts
      have HRR := hidG hrr
      have hwsz := hB.size
      have hwl : w.heap.size + 1 < wr.heap.size := by
        obtain ⟨_, _, _, h⟩ := HOL.out.shape
        exact h
      clear hq hnd hf hrr hB h2 h9 hfs hsl htk
      go_wp2_with (first | (go_at_call 40; refine (tokenText_any nd.kind nd.text nd.kids q mx _ (by omega) HMX.out (by simp)).mono ?_; rintro e w1 ⟨rfl, hb1⟩; rw [HTK.out]; have hx := (hb1.block wr.heap.size (by simp)).trans (Array.getElem?_push_size (xs := wr.heap) (x := Obj.cells #[.int .i64 nd.kind, .string nd.text, .int .i64 nd.kids, .int .i64 q] 31 (0, 0))); have HX1 := hidG hx; have HO1 := hidG ((HOL.out.below (below_alloc wr (.cells #[.int .i64 nd.kind, .string nd.text, .int .i64 nd.kids, .int .i64 q] 31))).below hb1); have HD1 := hidG (builderF_below (builderF_below HBD.out (below_alloc wr (.cells #[.int .i64 nd.kind, .string nd.text, .int .i64 nd.kids, .int .i64 q] 31))) hb1); have HB1 : Hid (Below w.heap.size w w1) := ((HB.out.alloc HB.out.size _).trans (hb1.mono (by have := HB.out.size; simp; omega))); have HS1 : Hid (wr.heap.size < w1.heap.size) := (by have := hb1.size; simp at this; exact this); clear hb1 hx) | (go_at_call 39; refine (writeString_k w.heap.size w.heap.size (Lib.byteCells acc) tk _ HD1.out (by rw [Lib.byteCells_length]; omega) HB1.out.size).mono ?_; rintro e w2 ⟨rfl, hd2, hb2, hk2⟩; have hx2 := hk2 wr.heap.size _ HX1.out (by intro e; have := Option.some.inj e; omega) (fun c fz e => by cases e); have HX2 := hidG hx2; have HO2 := hidG (HO1.out.write HD1.out hk2); have HD2 : Hid (Lib.IsBuilderF 67 5 w.heap.size w.heap.size (Lib.byteCells (acc ++ tk.data.toList)) w2) := (.inr (by rw [Lib.byteCells_append]; exact hd2)); have HB2 : Hid (Below w.heap.size w w2) := HB1.out.trans hb2; obtain ⟨c0, c1, c2, c3⟩ := cells_of hx2; clear hd2 hb2 hk2 hx2) | (go_at_call 38; refine (take_any w.heap.size (w.heap.size + 1) L nd q _ HO2.out hLl HPL.out HB2.out.size).mono ?_; rintro e w3 ⟨rfl, hol3, hb3, hk3⟩; have hx3 := hk3 wr.heap.size _ HX2.out (by intro e; have := Option.some.inj e; omega) (fun c fz e => by cases e); have HX3 := hidG hx3; have HD3 := hidG (builderF_take HD2.out HO2.out hk3); have HO3 := hidG hol3; have HB3 : Hid (Below w.heap.size w w3) := HB2.out.trans hb3; clear hol3 hb3 hk3 hx3 c0 c1 c2 c3))
      go_loopw [20] (fun iv wq => ∃ i : Nat, i ≤ closedL nd L ∧ iv = .int .i64 i ∧ Lib.IsBuilderF 67 5 w.heap.size w.heap.size (Lib.byteCells (acc ++ tk.data.toList ++ List.replicate i 41)) wq ∧ OL w.heap.size (w.heap.size + 1) (stepL nd L) wq ∧ wq.heap[wr.heap.size]? = some (.cells #[.int .i64 nd.kind, .string nd.text, .int .i64 nd.kids, .int .i64 q] 31 (0, 0)) ∧ Below w.heap.size w wq) (fun iv _ => closedL nd L - (intOf iv).toNat)
      case atStart => exact ⟨0, Nat.zero_le _, rfl, by simpa using HD3.out, HO3.out, HX3.out, HB3.out⟩
      case round =>
        obtain ⟨i, hi, rfl, hd4, ho4, hx4, hb4⟩ := hrel
        have HD4 := hidG hd4
        have HO4 := hidG ho4
        have HX4 := hidG hx4
        have HB4 := hidG hb4
        clear hd4 ho4 hx4 hb4
        by_cases hil : i < closedL nd L
        · go_wp2_with (first | (go_at_call 41; refine (writeByte_k w.heap.size w.heap.size (Lib.byteCells (acc ++ tk.data.toList ++ List.replicate i 41)) 41 _ HD4.out (by rw [Lib.byteCells_length]; simp; omega) HB4.out.size).mono ?_; rintro e w5 ⟨rfl, hd5, hb5, hk5⟩; have hx5 := hk5 _ _ HX4.out (by intro e; have := Option.some.inj e; omega) (fun c fz e => by cases e); have HX5 := hidG hx5; have HO5 := hidG (HO4.out.write HD4.out hk5); have HD5 : Hid (Lib.IsBuilderF 67 5 w.heap.size w.heap.size (Lib.byteCells ((acc ++ tk.data.toList ++ List.replicate i 41) ++ [41])) w5) := (.inr (by rw [← byteCells_snoc]; exact hd5)); have HB5 : Hid (Below w.heap.size w w5) := HB4.out.trans hb5; clear hd5 hb5 hk5 hx5))
          go_roundw
          case rel => exact ⟨i + 1, by omega, by go_num, by have := HD5.out; rw [List.append_assoc, ← List.replicate_succ'] at this; exact this, HO5.out, HX5.out, HB5.out⟩
          case measure => simp [intOf]; omega
        · have hie : i = closedL nd L := by omega
          subst hie
          obtain ⟨pl, cl, cL, hlL⟩ := HO4.out.shape
          obtain ⟨c0, c1, c2, c3⟩ := cells_of HX4.out
          obtain ⟨S, hS⟩ : ∃ S, stepL nd L = S := ⟨_, rfl⟩
          have HES := hidG hS
          rw [hS] at cL
          clear hS
          by_cases hse : S = []
          · subst hse
            have HSE : Hid ((stepL nd L).isEmpty = true) := by unfold Hid; rw [HES.out]; rfl
            go_wp2_with (first | (go_at_call 41; refine (writeByte_k w.heap.size w.heap.size (Lib.byteCells (acc ++ tk.data.toList ++ List.replicate (closedL nd L) 41)) 10 _ HD4.out (by rw [Lib.byteCells_length]; simp; omega) HB4.out.size).mono ?_; rintro e w5 ⟨rfl, hd5, hb5, hk5⟩; have hx5 := hk5 _ _ HX4.out (by intro e; have := Option.some.inj e; omega) (fun c fz e => by cases e); have HX5 := hidG hx5; have HO5 := hidG (HO4.out.write HD4.out hk5); have HD5 : Hid (Lib.IsBuilderF 67 5 w.heap.size w.heap.size (Lib.byteCells ((acc ++ tk.data.toList ++ List.replicate (closedL nd L) 41) ++ [10])) w5) := (.inr (by rw [← byteCells_snoc]; exact hd5)); have HB5 : Hid (Below w.heap.size w w5) := HB4.out.trans hb5; clear hd5 hb5 hk5 hx5))
            go_roundw
            case rel =>
              refine ⟨j + 1, zz + nd.text.size, acc ++ tk.data.toList ++ List.replicate (closedL nd L) 41 ++ [10], stepL nd L, by omega, by omega, by go_num, HSL.out, stepL_pos HPL.out h0k hkd, HFS.out, ?_, ?_, HD5.out, HO5.out, HB5.out⟩
              · rw [← HRR.out, HTL.out]
                simp only [rowI, sepI, List.append_assoc]
                rw [if_pos HSE.out]
              · have := HTS.out
                rw [Lib.size_eq] at this
                simp
                omega
            case measure => simp [intOf]; omega
          · have hsl0 : ((S.length : Int) == 0) = false := by
              rw [beq_eq_false_iff_ne]
              intro e
              exact hse (List.eq_nil_of_length_eq_zero (by omega))
            have HSE : Hid ((stepL nd L).isEmpty = false) := by unfold Hid; rw [HES.out, List.isEmpty_eq_false_iff]; exact hse
            clear hse
            by_cases hsp : nd.kind ≠ 1 ∨ 0 < closedL nd L
            · have HSP := hidG hsp
              by_cases hk1 : nd.kind = 1
              · have hcp : 0 < closedL nd L := hsp.resolve_left (fun h => h hk1)
                have z1 : (nd.kind != 1) = false := by rw [bne_eq_false_iff_eq]; exact hk1
                have z2 : decide ((0 : Int) < (closedL nd L : Int)) = true := by rw [decide_eq_true_iff]; omega
                clear hk1 hsp
                go_wp2_with (first | (go_at_call 41; refine (writeByte_k w.heap.size w.heap.size (Lib.byteCells (acc ++ tk.data.toList ++ List.replicate (closedL nd L) 41)) 32 _ HD4.out (by rw [Lib.byteCells_length]; simp; omega) HB4.out.size).mono ?_; rintro e w5 ⟨rfl, hd5, hb5, hk5⟩; have hx5 := hk5 _ _ HX4.out (by intro e; have := Option.some.inj e; omega) (fun c fz e => by cases e); have HX5 := hidG hx5; have HO5 := hidG (HO4.out.write HD4.out hk5); have HD5 : Hid (Lib.IsBuilderF 67 5 w.heap.size w.heap.size (Lib.byteCells ((acc ++ tk.data.toList ++ List.replicate (closedL nd L) 41) ++ [32])) w5) := (.inr (by rw [← byteCells_snoc]; exact hd5)); have HB5 : Hid (Below w.heap.size w w5) := HB4.out.trans hb5; clear hd5 hb5 hk5 hx5))
                go_roundw
                case rel =>
                  refine ⟨j + 1, zz + nd.text.size, acc ++ tk.data.toList ++ List.replicate (closedL nd L) 41 ++ [32], stepL nd L, by omega, by omega, by go_num, HSL.out, stepL_pos HPL.out h0k hkd, HFS.out, ?_, ?_, HD5.out, HO5.out, HB5.out⟩
                  · rw [← HRR.out, HTL.out]
                    simp only [rowI, sepI, List.append_assoc]
                    rw [if_neg (by rw [HSE.out]; decide), if_pos HSP.out]
                  · have := HTS.out
                    rw [Lib.size_eq] at this
                    simp
                    omega
                case measure => simp [intOf]; omega
              · have z1 : (nd.kind != 1) = true := by rw [bne_iff_ne]; exact hk1
                clear hk1 hsp
                go_wp2_with (first | (go_at_call 41; refine (writeByte_k w.heap.size w.heap.size (Lib.byteCells (acc ++ tk.data.toList ++ List.replicate (closedL nd L) 41)) 32 _ HD4.out (by rw [Lib.byteCells_length]; simp; omega) HB4.out.size).mono ?_; rintro e w5 ⟨rfl, hd5, hb5, hk5⟩; have hx5 := hk5 _ _ HX4.out (by intro e; have := Option.some.inj e; omega) (fun c fz e => by cases e); have HX5 := hidG hx5; have HO5 := hidG (HO4.out.write HD4.out hk5); have HD5 : Hid (Lib.IsBuilderF 67 5 w.heap.size w.heap.size (Lib.byteCells ((acc ++ tk.data.toList ++ List.replicate (closedL nd L) 41) ++ [32])) w5) := (.inr (by rw [← byteCells_snoc]; exact hd5)); have HB5 : Hid (Below w.heap.size w w5) := HB4.out.trans hb5; clear hd5 hb5 hk5 hx5))
                go_roundw
                case rel =>
                  refine ⟨j + 1, zz + nd.text.size, acc ++ tk.data.toList ++ List.replicate (closedL nd L) 41 ++ [32], stepL nd L, by omega, by omega, by go_num, HSL.out, stepL_pos HPL.out h0k hkd, HFS.out, ?_, ?_, HD5.out, HO5.out, HB5.out⟩
                  · rw [← HRR.out, HTL.out]
                    simp only [rowI, sepI, List.append_assoc]
                    rw [if_neg (by rw [HSE.out]; decide), if_pos HSP.out]
                  · have := HTS.out
                    rw [Lib.size_eq] at this
                    simp
                    omega
                case measure => simp [intOf]; omega
            · have HSP := hidG hsp
              have hk1 : nd.kind = 1 := by
                rcases Classical.em (nd.kind = 1) with h | h
                · exact h
                · exact absurd (.inl h) hsp
              have z1 : (nd.kind != 1) = false := by rw [bne_eq_false_iff_eq]; exact hk1
              have hcz : closedL nd L = 0 := by rcases Nat.eq_zero_or_pos (closedL nd L) with h | h; exact h; exact absurd (.inr h) hsp
              clear hk1 hsp
              go_wp2_with fail
              go_roundw
              case rel =>
                refine ⟨j + 1, zz + nd.text.size, acc ++ tk.data.toList ++ List.replicate (closedL nd L) 41 ++ [], stepL nd L, by omega, by omega, by go_num, HSL.out, stepL_pos HPL.out h0k hkd, HFS.out, ?_, ?_, by rw [List.append_nil]; exact HD4.out, HO4.out, HB4.out⟩
                · rw [← HRR.out, HTL.out]
                  simp only [rowI, sepI, List.append_assoc]
                  rw [if_neg (by rw [HSE.out]; decide), if_neg HSP.out]
                · have := HTS.out
                  rw [Lib.size_eq] at this
                  simp
                  omega
              case measure => simp [intOf]; omega
    · have hje : j = ns.length := by omega
      rw [hje, List.drop_of_length_le (by simp), show rowI [] L = [] from rfl, List.append_nil] at hrr
      have HRR := hidG hrr
      have hwsz := hB.size
      clear hrr hje hf hB
      go_wp2_with (first | (go_at_call 42; refine (builderString_k w.heap.size w.heap.size acc _ HBD.out hwsz).mono ?_; rintro e w1 ⟨rfl, hb1⟩; have HB1 := hidG hb1; clear hb1))
      go_ret
      exact ⟨by rw [← HRR.out]; rfl, HB.out.trans HB1.out⟩
end Go.Proofs.YtdngpnlbhadbpaaDoor

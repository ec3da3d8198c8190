import Derived.Test.YtebldkelihmihaaGreatDoorTgFX
namespace Go.Proofs.YtebldkelihmihaaGreatDoor.L
open Go.ChangeShapes Go.WideShapes Go.ChangeAt Go.RowKit
theorem own_form {w : World} {base : Nat} {e : TypeId} {size n : Nat} {v : Value} {xs : List Value} (h : w.ownsRow base e size v n xs) : ∃ p c, v = .slice p n c ∧ (p = none ∨ ∃ g, p = some ⟨g, 0, none⟩) := by
  rcases h.2 with ⟨rfl, rfl⟩ | ⟨g, cap, cur, rfl, _⟩
  · exact ⟨none, 0, rfl, .inl rfl⟩
  · exact ⟨_, _, rfl, .inr ⟨g, rfl⟩⟩
structure TS (w : World) (p1 : Option Addr) (n c1 : Nat) (st : Bool) (bd : List UInt8) (L : List (List UInt8)) (W : World) : Prop where
  rbx : Bx W w.heap.size [.slice p1 n c1, .bool st, .string (strOf bd)]
  qbx : Bx W (w.heap.size + 1) [.slice none 0 0, .bool false, .string ⟨#[]⟩]
  own : W.ownsRow (w.heap.size + 1 + 1) 9 1 (.slice p1 n c1) n (strsC L)
  bel : Below w.heap.size w W
theorem TS.below {w : World} {p1 : Option Addr} {n c1 : Nat} {st : Bool} {bd : List UInt8} {L : List (List UInt8)} {W W' : World} (h : TS w p1 n c1 st bd L W) (hb : Below W.heap.size W W') : TS w p1 n c1 st bd L W' :=
  ⟨h.rbx.below h.rbx.lt hb, h.qbx.below h.qbx.lt hb, row_below h.own hb, h.bel.trans (hb.mono h.bel.size)⟩
structure TL (w : World) (B D : Nat) (p1 : Option Addr) (n c1 : Nat) (st : Bool) (bd : List UInt8) (s : Bool) (p : Option Addr) (l c : Nat) (g : Int) (L : List (List UInt8)) (W : World) : Prop where
  ts : TS w p1 n c1 st bd L W
  dbx : Bx W D [.bool s, .slice p l c]
  div : IsI B W (.agg #[.bool s, .slice p l c]) g 280
  low : ∀ g, (Value.slice p1 n c1).ownBlock = some g → g < B
  le : B ≤ D
theorem TL.below {w : World} {B D : Nat} {p1 : Option Addr} {n c1 : Nat} {st : Bool} {bd : List UInt8} {s : Bool} {p : Option Addr} {l c : Nat} {g : Int} {L : List (List UInt8)} {W W' : World} (h : TL w B D p1 n c1 st bd s p l c g L W) (hb : Below W.heap.size W W') : TL w B D p1 n c1 st bd s p l c g L W' :=
  ⟨h.ts.below hb, h.dbx.below h.dbx.lt hb, h.div.below hb, h.low, h.le⟩
theorem strsC_set (L : List (List UInt8)) (i : Nat) (u : List UInt8) : (strsC L).set i (.string (strOf u)) = strsC (L.set i u) := by unfold strsC; rw [List.map_set]
theorem bx_one {W : World} {g k : Nat} {l : List Value} (h : Bx W g l) (hk : k ≠ g) (i : Nat) (u : Value) : Bx (W.setCell ⟨k, i, none⟩ u) g l := by
  obtain ⟨ty, h⟩ := h
  exact ⟨ty, by rw [Below.heap_setCell _ ⟨k, i, none⟩ _ _ (Ne.symm hk)]; exact h⟩
theorem isI_kept {B : Nat} {W W' : World} {s : Bool} {p : Option Addr} {l c : Nat} {x : Int} {m : Nat} (h : IsI B W (.agg #[.bool s, .slice p l c]) x m) (hs : W.heap.size ≤ W'.heap.size) (hk : ∀ a, p = some a → 0 < l → W'.heap[a.block]? = W.heap[a.block]?) : IsI B W' (.agg #[.bool s, .slice p l c]) x m := by
  obtain ⟨neg, v, t, e, hL, r⟩ := h
  simp only [Value.agg.injEq, Array.mk.injEq, List.cons.injEq, Value.bool.injEq, and_true] at e
  obtain ⟨rfl, rfl⟩ := e
  obtain ⟨a, cap, e, h1, h2, h3, h4⟩ := hL
  simp only [Value.slice.injEq] at e
  obtain ⟨rfl, rfl, rfl⟩ := e
  refine ⟨neg, _, t, rfl, ⟨p, c, rfl, h1, h2, h3, ?_⟩, r⟩
  rcases h4 with h4 | ⟨b, off, rfl, hb1, hb2, hc⟩
  · exact .inl h4
  · by_cases ht : t = []
    · exact .inl ht
    have h0 : 0 < t.length := List.length_pos_iff.2 ht
    exact .inr ⟨b, off, rfl, hb1, Nat.lt_of_lt_of_le hb2 hs, fun i hi => (World.cell?_of_block (a := ⟨b, off + i, none⟩) (hk ⟨b, off, none⟩ rfl h0)).trans (hc i hi)⟩
theorem isI_from {B : Nat} {W : World} {s : Bool} {p : Option Addr} {l c : Nat} {x : Int} {m : Nat} (h : IsI B W (.agg #[.bool s, .slice p l c]) x m) : ∀ a, p = some a → 0 < l → B ≤ a.block ∧ a.block < W.heap.size := by
  obtain ⟨neg, v, t, e, hL, r⟩ := h
  simp only [Value.agg.injEq, Array.mk.injEq, List.cons.injEq, Value.bool.injEq, and_true] at e
  obtain ⟨rfl, rfl⟩ := e
  obtain ⟨a, cap, e, h1, h2, h3, h4⟩ := hL
  simp only [Value.slice.injEq] at e
  obtain ⟨rfl, rfl, rfl⟩ := e
  intro q hq hl
  rcases h4 with h4 | ⟨b, off, e, hb1, hb2, hc⟩
  · rw [h4] at hl; cases hl
  · rw [hq] at e; cases e; exact ⟨hb1, hb2⟩
theorem TL.far {w : World} {B D : Nat} {p1 : Option Addr} {n c1 : Nat} {st : Bool} {bd : List UInt8} {s : Bool} {p : Option Addr} {l c : Nat} {g : Int} {L : List (List UInt8)} {W0 W : World} (h0 : TL w B D p1 n c1 st bd s p l c g L W0) (h : TL w B D p1 n c1 st bd s p l c g L W) {k : Nat} (hk : W0.heap.size ≤ k) (i : Nat) (u : Value) : TL w B D p1 n c1 st bd s p l c g L (W.setCell ⟨k, i, none⟩ u) := by
  have h1 := h0.ts.rbx.lt
  have h2 := h0.ts.qbx.lt
  have h3 := h0.dbx.lt
  refine ⟨⟨bx_one h.ts.rbx (by omega) _ _, bx_one h.ts.qbx (by omega) _ _, own_other' h.ts.own (fun g hg => ?_), h.ts.bel.setCell (p := ⟨k, i, none⟩) (by show w.heap.size ≤ k; omega) _⟩, bx_one h.dbx (by omega) _ _, isI_kept h.div (by simp) (fun a e1 e2 => ?_), h.low, h.le⟩
  · have := (h0.ts.own.lt g hg).2
    exact Below.heap_setCell _ ⟨k, i, none⟩ _ _ (by show g ≠ k; omega)
  · have := (isI_from h0.div a e1 e2).2
    exact Below.heap_setCell _ ⟨k, i, none⟩ _ _ (by show a.block ≠ k; omega)
theorem TL.put {w : World} {B D : Nat} {b n c1 : Nat} {st : Bool} {bd : List UInt8} {s : Bool} {p : Option Addr} {l c : Nat} {g : Int} {L : List (List UInt8)} {W : World} (h : TL w B D (some ⟨b, 0, none⟩) n c1 st bd s p l c g L W) (k : Nat) (u : List UInt8) : TL w B D (some ⟨b, 0, none⟩) n c1 st bd s p l c g (L.set k u) (W.setCell ⟨b, k, none⟩ (.string (strOf u))) := by
  have h1 := own_base h.ts.own b rfl
  have h2 := h.low b rfl
  have h3 := h.le
  refine ⟨⟨bx_one h.ts.rbx (by omega) _ _, bx_one h.ts.qbx (by omega) _ _, ?_, h.ts.bel.setCell (p := ⟨b, k, none⟩) (by show w.heap.size ≤ b; omega) _⟩, bx_one h.dbx (by omega) _ _, h.div.setCell ⟨b, k, none⟩ _ h2, h.low, h.le⟩
  rw [← strsC_set]
  exact (h.ts.own.stored k (.string (strOf u))).1
theorem getD_set_self {L : List (List UInt8)} {k : Nat} (h : k < L.length) (u : List UInt8) : (L.set k u).getD k [] = u := by
  rw [List.getD_eq_getElem?_getD, List.getElem?_set_self h]; rfl
theorem getD_set_ne {L : List (List UInt8)} {k i : Nat} (h : k ≠ i) (u : List UInt8) : (L.set k u).getD i [] = L.getD i [] := by
  rw [List.getD_eq_getElem?_getD, List.getElem?_set_ne h, List.getD_eq_getElem?_getD]
theorem tight_new {Wh : List Bool} {f : Lr} {g : Int} {M : List (List UInt8)} {u : ByteArray} {q r : Int} (hwd : IsWD Wh (numsT f.cs) g) (h0 : g ≠ 0) (hl : M.length = f.cs.length) (hM : ∀ i, i < f.cs.length → ∃ q r, IsDiv ((numsT f.cs).getD i 0) g q r ∧ IsText q (strOf (M.getD i []))) (hd : IsDiv (numT (strOf f.bd) - if f.st = true then 1 else 0) g q r) (hu : IsText q u) : TightT Wh f ⟨M, false, u.data.toList⟩ := by
  have hQ : ∀ i, i < f.cs.length → ∃ q, ∃ r, IsDiv ((numsT f.cs).getD i 0) g q r ∧ IsText q (strOf (M.getD i [])) := hM
  obtain ⟨Q, hQl, hQ⟩ := list_of f.cs.length hQ
  have hat : ∀ i, i < f.cs.length → ∃ r, IsDiv ((numsT f.cs).getD i 0) g (Q.getD i 0) r ∧ IsText (Q.getD i 0) (strOf (M.getD i [])) := fun i hi => by
    have h1 := hQ i (by omega)
    have e : Q.getD i 0 = Q[i]'(by omega) := by rw [List.getD_eq_getElem?_getD, List.getElem?_eq_getElem (by omega)]; rfl
    rw [e]
    exact h1
  have hnl := nr_len f
  refine ⟨⟨Q, false, q⟩, ⟨g, hwd, .inr ⟨h0, rfl, hQl.trans hnl.symm, fun i hi => ?_, r, hd⟩⟩, rfl, hl.trans hQl.symm, fun i hi => ?_, by rw [strOf_data]; exact hu⟩
  · obtain ⟨r, h, _⟩ := hat i (by omega)
    exact ⟨r, h⟩
  · obtain ⟨r, _, h⟩ := hat i (by have : i < Q.length := hi; omega)
    exact h
set_option maxRecDepth 100000 in
set_option maxHeartbeats 4000000 in
theorem tightened_any (wv va : Value) (Wh : List Bool) (f : Lr) (w : World) (hw : BoolsAt w wv Wh) (hc : StrsAt w va f.cs) (hP : Plain va) (hlen : Wh.length = f.cs.length) (hs : SmallR f) (hbd : textOk f.bd = true) (hok : f.cs.all textOk = true) (hT : Tabs w) :
    Calls Tryz.prog 27 #[wv, .agg #[va, .bool f.st, .string (strOf f.bd)]] w fun e w' => ∃ v' f', e = .returned (.agg #[v', .bool f'.st, .string (strOf f'.bd)]) ∧ w'.ownsRow w.heap.size 9 1 v' f'.cs.length (strsC f'.cs) ∧ TightT Wh f f' ∧ Below w.heap.size w w' := by
  have HWA := hidG hw
  have HCA := hidG hc
  have HPA := hidG hP
  have HLN := hidG hlen
  have HS := hidG hs
  have HBD := hidG hbd
  have HOK := hidG hok
  have HT := hidG hT
  obtain ⟨pw, cw, rfl, w1, w2, -⟩ := hw
  obtain ⟨pc, cc, rfl, c1, c2, -⟩ := hc
  unfold maxLen at w2 c2
  clear hP hlen hs hbd hok hT
  go_enter Tryz.func27, Tryz.ntmps27
  go_wp2_with fail
  obtain ⟨W2, hW2, hb2, x1, x2, hs2⟩ := box2 w [.slice pc f.cs.length cc, .bool f.st, .string (strOf f.bd)] [.slice none 0 0, .bool false, .string ⟨#[]⟩] 50 50
  rw [hW2]
  have HB2 := hidG hb2
  have HX1 := hidG x1
  have HX2 := hidG x2
  have HS2 := hidG hs2
  clear hW2 hb2 x1 x2 hs2
  refine (cloneS_any _ f.cs W2 (HCA.out.below HB2.out) HS.out.1.1 HPA.out).mono ?_
  rintro e w3 ⟨v3, rfl, hown3, hb3⟩
  obtain ⟨p3, c3, rfl, hp3⟩ := own_form hown3
  have HP3 := hidG hp3
  have hX1 := HX1.out.below HX1.out.lt hb3
  obtain ⟨a0, a1, a2⟩ := hX1.c3
  have a3 := hX1.frozen 0
  have HT0 : Hid (TS w p3 f.cs.length c3 f.st f.bd f.cs (w3.setCell ⟨w.heap.size, 0, none⟩ (.slice p3 f.cs.length c3))) := by
    have hs2 := HS2.out
    refine ⟨hX1.set 0 _, ?_, ?_, (HB2.out.trans (hb3.mono HB2.out.size)).setCell (p := ⟨w.heap.size, 0, none⟩) (Nat.le_refl _) _⟩
    · obtain ⟨ty, h⟩ := HX2.out.below HX2.out.lt hb3
      exact ⟨ty, by rw [Below.heap_setCell _ ⟨w.heap.size, 0, none⟩ _ _ (by show w.heap.size + 1 ≠ w.heap.size; omega)]; exact h⟩
    · rw [← hs2]
      exact ownsRow_setCell_below hown3 (by show w.heap.size < _; omega) _
  clear hown3 hb3 hp3 hX1
  obtain ⟨W4, hW4⟩ : ∃ W4, w3.setCell ⟨w.heap.size, 0, none⟩ (.slice p3 f.cs.length c3) = W4 := ⟨_, rfl⟩
  rw [hW4] at HT0
  have HW4 := hidG hW4
  clear hW4
  obtain ⟨b0, b1, b2⟩ := HT0.out.rbx.c3
  go_wp2_with (rw [HW4.out])
  refine (wholeDivisor_any _ _ Wh f.cs W4 (HWA.out.below HT0.out.bel) (strs_at HT0.out.own) HLN.out HS.out.1 HOK.out (HT.out.below HT0.out.bel)).mono ?_
  rintro e w5 ⟨s, p, l, c, g, rfl, hwd, hI, hb5⟩
  obtain ⟨W6, hW6⟩ : ∃ W6, w5.alloc (.cells #[.bool s, .slice p l c] 82) = W6 := ⟨_, rfl⟩
  have hB6 : Below w5.heap.size w5 W6 := by rw [← hW6]; exact below_alloc _ _
  have hX6 : Bx W6 w5.heap.size [.bool s, .slice p l c] := by rw [← hW6]; exact bx_new w5 _ _
  have HW6 := hidG hW6
  have HX6 := hidG hX6
  have HWD := hidG hwd
  have HT6 := hidG ((HT0.out.below hb5).below hB6)
  have HI6 := hidG (hI.below hB6)
  have HB46 : Hid (Below W4.heap.size W4 W6) := hb5.trans (hB6.mono hb5.size)
  have HIZ := hidG (isI_isZero hI)
  have HS5 : Hid (W4.heap.size ≤ w5.heap.size) := hb5.size
  obtain ⟨d0, d1⟩ := hX6.c2
  clear hwd hI hb5 hB6 hX6 hW6 b0 b1 b2 a0 a1 a2 a3
  by_cases h0 : g = 0
  · have hl1 : ((l : Int) == 0) = true := by rw [HIZ.out]; exact decide_eq_true h0
    have H0 := hidG h0
    clear h0
    go_wp2_with (first | (rw [HW6.out]) | (go_at_call 47; refine (isZero_any _ _ _ _ _).mono ?_; rintro e w7 ⟨rfl, hw7⟩; have HB7 : Hid (Below W6.heap.size W6 w7) := (by unfold Hid; rw [hw7]; exact below_alloc _ _); rw [hl1]; have ht7 := HT6.out.below HB7.out; obtain ⟨b0, b1, b2⟩ := ht7.rbx.c3; obtain ⟨e0, e1, e2⟩ := ht7.qbx.c3; have f0 := ht7.qbx.frozen 0; have f1 := ht7.qbx.frozen 1; have f2 := ht7.qbx.frozen 2; have HT7 := hidG ht7; clear ht7 hw7))
    have hE := ((HT7.out.qbx.set 0 (.slice p3 f.cs.length c3)).set 1 (.bool f.st)).set 2 (.string (strOf f.bd))
    obtain ⟨e0, e1, e2⟩ := hE.c3
    have hw1 : w.heap.size + 1 < w.heap.size + 1 + 1 := Nat.lt_succ_self _
    have hO := own_lower (ownsRow_setCell_below (ownsRow_setCell_below (ownsRow_setCell_below HT7.out.own (a := ⟨w.heap.size + 1, 0, none⟩) hw1 (.slice p3 f.cs.length c3)) (a := ⟨w.heap.size + 1, 1, none⟩) hw1 (.bool f.st)) (a := ⟨w.heap.size + 1, 2, none⟩) hw1 (.string (strOf f.bd))) (base' := w.heap.size) (by omega)
    have hBE := ((HT7.out.bel.setCell (p := ⟨w.heap.size + 1, 0, none⟩) (by show _ ≤ w.heap.size + 1; omega) (.slice p3 f.cs.length c3)).setCell (p := ⟨w.heap.size + 1, 1, none⟩) (by show _ ≤ w.heap.size + 1; omega) (.bool f.st)).setCell (p := ⟨w.heap.size + 1, 2, none⟩) (by show _ ≤ w.heap.size + 1; omega) (.string (strOf f.bd))
    have hTT : TightT Wh f f := ⟨nrOf f, ⟨g, HWD.out, .inl ⟨H0.out, rfl⟩⟩, said_self HBD.out HOK.out⟩
    refine bodyPost_ret (v := .agg #[.slice p3 f.cs.length c3, .bool f.st, .string (strOf f.bd)]) ?_ rfl ⟨_, f, rfl, hO, hTT, hBE⟩
    clear hE hO hBE
    simp [results, Tryz.results27, go_sem, e0, e1, e2]
  · have hl1 : ((l : Int) == 0) = false := by rw [HIZ.out]; exact decide_eq_false h0
    have H0 := hidG h0
    clear h0
    go_wp2_with (first | (rw [HW6.out]) | (go_at_call 47; refine (isZero_any _ _ _ _ _).mono ?_; rintro e w7 ⟨rfl, hw7⟩; have HB7 : Hid (Below W6.heap.size W6 w7) := (by unfold Hid; rw [hw7]; exact below_alloc _ _); rw [hl1]; have ht7 := HT6.out.below HB7.out; obtain ⟨b0, b1, b2⟩ := ht7.rbx.c3; have HT7 := hidG ht7; clear ht7 hw7))
    have HL7 : Hid (TL w W4.heap.size w5.heap.size p3 f.cs.length c3 f.st f.bd s p l c g f.cs w7) := ⟨HT7.out, HX6.out.below HX6.out.lt HB7.out, HI6.out.below HB7.out, fun g hg => (HT0.out.own.lt g hg).2, HS5.out⟩
    clear b0 b1 b2 d0 d1
    go_loopw [23] (fun iv wr => ∃ (k : Nat) (M : List (List UInt8)), k ≤ f.cs.length ∧ iv = .int .i64 (k : Nat) ∧ M.length = f.cs.length ∧ (∀ i, i < k → ∃ q r, IsDiv ((numsT f.cs).getD i 0) g q r ∧ IsText q (strOf (M.getD i []))) ∧ (∀ i, k ≤ i → M.getD i [] = f.cs.getD i []) ∧ TL w W4.heap.size w5.heap.size p3 f.cs.length c3 f.st f.bd s p l c g M wr) (fun iv _ => f.cs.length - (intOf iv).toNat)
    case atStart => exact ⟨0, f.cs, Nat.zero_le _, rfl, rfl, fun i h => absurd h (Nat.not_lt_zero _), fun _ _ => rfl, HL7.out⟩
    case round =>
      rename World => wo
      obtain ⟨k, M, hk, rfl, hml, hm1, hm2, hM⟩ := hrel
      have HM := hidG hM
      have HML := hidG hml
      have HM1 := hidG hm1
      have HM2 := hidG hm2
      clear HL7 hml hm1 hm2
      by_cases hlt : k < f.cs.length
      · obtain ⟨g3, rfl⟩ : ∃ g, p3 = some ⟨g, 0, none⟩ := by
          rcases hM.ts.own.2 with ⟨e, e2⟩ | ⟨g, cap, cur, e, _⟩
          · omega
          · cases e; exact ⟨g, rfl⟩
        have HFK : Hid (M.getD k [] = f.cs[k]) := by
          unfold Hid
          rw [HM2.out k (Nat.le_refl _), List.getD_eq_getElem?_getD, List.getElem?_eq_getElem hlt]; rfl
        have k0 : wo.cell? ⟨g3, k, none⟩ = some (.string (strOf f.cs[k])) := by
          rw [← HFK.out]
          have hkm : k < M.length := by have := HML.out; omega
          refine own_read hM.ts.own ?_
          unfold strsC
          rw [List.getElem?_map, List.getElem?_eq_getElem hkm, List.getD_eq_getElem?_getD, List.getElem?_eq_getElem hkm]; rfl
        have hg3 : g3 < wo.heap.size := (hM.ts.own.lt g3 rfl).2
        have HRD : Hid (∀ W, Calls Tryz.prog 49 #[.string (strOf f.cs[k])] W fun e w' => ∃ s1 p l c, e = .returned (.agg #[.bool s1, .slice p l c]) ∧ IsI W.heap.size w' (.agg #[.bool s1, .slice p l c]) ((numsT f.cs).getD k 0) 280 ∧ Below W.heap.size W w') := fun W => by
          rw [numsT_at hlt]
          exact cutI_any _ W (HS.out.1.2 _ (List.getElem_mem hlt)) (List.all_eq_true.1 HOK.out _ (List.getElem_mem hlt))
        have HCC : Hid (∀ W, Below wo.heap.size wo W → (W.cell? ⟨w.heap.size, 0, none⟩ = some (.slice (some ⟨g3, 0, none⟩) f.cs.length c3) ∧ (W.cell? ⟨w5.heap.size, 0, none⟩ = some (.bool s) ∧ W.cell? ⟨w5.heap.size, 1, none⟩ = some (.slice p l c)) ∧ W.cell? ⟨g3, k, none⟩ = some (.string (strOf f.cs[k])) ∧ W.frozen? ⟨g3, k, none⟩ = false)) := fun W hW => by
          have h1 := HM.out.below hW
          exact ⟨h1.ts.rbx.c3.1, h1.dbx.c2, (hW.cell (p := ⟨g3, k, none⟩) hg3).trans k0, h1.ts.own.frozenAt k⟩
        have HQT : Hid (∀ W s1 p1 l1 c1, Below wo.heap.size wo W → IsI wo.heap.size W (.agg #[.bool s1, .slice p1 l1 c1]) ((numsT f.cs).getD k 0) 280 → Calls Tryz.prog 48 #[.agg #[.bool s1, .slice p1 l1 c1], .agg #[.bool s, .slice p l c]] W fun e w' => ∃ u q r, e = .returned (.string u) ∧ IsDiv ((numsT f.cs).getD k 0) g q r ∧ IsText q u ∧ Below wo.heap.size wo w') := fun W s1 p1 l1 c1 hW hz => by
          refine (quotientText_any 0 s1 p1 l1 c1 s p l c _ g W (Nat.zero_le _) (hz.mono (Nat.zero_le _) (by omega)) (((HM.out.below hW).div).mono (Nat.zero_le _) (by omega)) H0.out (HT.out.below (HM.out.below hW).ts.bel)).mono ?_
          rintro e w' ⟨u, q, r, rfl, h1, h2, h3⟩
          exact ⟨u, q, r, rfl, h1, h2, hW.trans (h3.mono hW.size)⟩
        obtain ⟨S, hS⟩ : ∃ S, strOf f.cs[k] = S := ⟨_, rfl⟩
        rw [hS] at k0 HRD HCC
        clear hS hM
        have hkm : k < M.length := by have := HML.out; omega
        have HNX : Hid (∀ W u q r, Below wo.heap.size wo W → IsDiv ((numsT f.cs).getD k 0) g q r → IsText q u → ∃ M', M'.length = f.cs.length ∧ (∀ i, i < k + 1 → ∃ q r, IsDiv ((numsT f.cs).getD i 0) g q r ∧ IsText q (strOf (M'.getD i []))) ∧ (∀ i, k + 1 ≤ i → M'.getD i [] = f.cs.getD i []) ∧ TL w W4.heap.size w5.heap.size (some ⟨g3, 0, none⟩) f.cs.length c3 f.st f.bd s p l c g M' (W.setCell ⟨g3, k, none⟩ (.string u))) := fun W u q r hW hd hu => by
          refine ⟨M.set k u.data.toList, by rw [List.length_set]; exact HML.out, fun i hi => ?_, fun i hi => ?_, ?_⟩
          · by_cases e : i = k
            · subst e
              rw [getD_set_self hkm, strOf_data]
              exact ⟨q, r, hd, hu⟩
            · rw [getD_set_ne (Ne.symm e)]
              exact HM1.out i (by omega)
          · rw [getD_set_ne (by omega)]
            exact HM2.out i (by omega)
          · have := (HM.out.below hW).put k u.data.toList
            rw [strOf_data] at this
            exact this
        clear hkm
        obtain ⟨m1, ⟨m2, m3⟩, m4, m5⟩ := HCC.out wo (Below.refl _ _)
        have i1 : (k : Int) < (f.cs.length : Int) := by omega
        go_wp2_with fail
        go_region_with (first
          | (go_at_call 49; refine (HRD.out _).mono ?_; rintro e w8 ⟨s8, p8, l8, c8, rfl, hz8, hb8⟩; have HB8 : Hid (Below wo.heap.size wo w8) := (Below.refl _ _).drew.trans hb8; have HZ8 := hidG hz8; obtain ⟨m1, ⟨m2, m3⟩, m4, m5⟩ := HCC.out w8 HB8.out; clear hz8 hb8)
          | (go_at_call 48; refine (HQT.out _ _ _ _ _ HB8.out HZ8.out).mono ?_; rintro e w9 ⟨u, q9, r9, rfl, hd9, hu9, hb9⟩; have HD9 := hidG hd9; have HU9 := hidG hu9; have HB9 := hidG hb9; obtain ⟨m1, ⟨m2, m3⟩, m4, m5⟩ := HCC.out w9 hb9; clear hd9 hu9 hb9))
        all_goals
          go_wp2_with fail
          go_roundw
          case rel =>
            obtain ⟨M', x1, x2, x3, x4⟩ := HNX.out w9 u q9 r9 HB9.out HD9.out HU9.out
            exact ⟨k + 1, M', by omega, by go_num, x1, x2, x3, x4⟩
          case measure => simp [intOf]; omega
      · have hke : k = f.cs.length := by omega
        rw [hke] at HM1
        obtain ⟨b0, b1, b2⟩ := hM.ts.rbx.c3
        clear hM hke HM2
        go_wp2_with fail
        refine (cutI_any f.bd wo HS.out.2 HBD.out).mono ?_
        rintro e w8 ⟨s8, p8, l8, c8, rfl, hz8, hb8⟩
        obtain ⟨W9, hW9⟩ : ∃ W9, w8.alloc (.cells #[.bool s8, .slice p8 l8 c8] 82) = W9 := ⟨_, rfl⟩
        have hB9 : Below w8.heap.size w8 W9 := by rw [← hW9]; exact below_alloc _ _
        have hX9 : Bx W9 w8.heap.size [.bool s8, .slice p8 l8 c8] := by rw [← hW9]; exact bx_new w8 _ _
        have HW9 := hidG hW9
        have HX9 := hidG hX9
        have HM9 := hidG ((HM.out.below hb8).below hB9)
        have HZ9 := hidG (hz8.below hB9)
        have HS8 : Hid (wo.heap.size ≤ w8.heap.size) := hb8.size
        clear hW9 hB9 hX9 hz8 hb8 b0 b1 b2
        obtain ⟨b0, b1, b2⟩ := HM9.out.ts.rbx.c3
        cases hst : f.st with
        | false =>
          rw [hst] at b1
          have HST := hidG hst
          clear hst
          go_wp2_with (rw [HW9.out])
          have HCF : Hid (∀ W, Below W9.heap.size W9 W → W.cell? ⟨w.heap.size, 0, none⟩ = some (.slice p3 f.cs.length c3) ∧ (W.cell? ⟨w8.heap.size, 0, none⟩ = some (.bool s8) ∧ W.cell? ⟨w8.heap.size, 1, none⟩ = some (.slice p8 l8 c8)) ∧ (W.cell? ⟨w5.heap.size, 0, none⟩ = some (.bool s) ∧ W.cell? ⟨w5.heap.size, 1, none⟩ = some (.slice p l c)) ∧ (W.cell? ⟨w.heap.size + 1, 0, none⟩ = some (.slice none 0 0) ∧ W.cell? ⟨w.heap.size + 1, 1, none⟩ = some (.bool false) ∧ W.cell? ⟨w.heap.size + 1, 2, none⟩ = some (.string ⟨#[]⟩)) ∧ W.frozen? ⟨w.heap.size + 1, 0, none⟩ = false ∧ W.frozen? ⟨w.heap.size + 1, 1, none⟩ = false ∧ W.frozen? ⟨w.heap.size + 1, 2, none⟩ = false) := fun W hW => by
            have h1 := HM9.out.below hW
            have h2 := HX9.out.below HX9.out.lt hW
            exact ⟨h1.ts.rbx.c3.1, h2.c2, h1.dbx.c2, h1.ts.qbx.c3, h1.ts.qbx.frozen 0, h1.ts.qbx.frozen 1, h1.ts.qbx.frozen 2⟩
          have HQT : Hid (∀ W, Below W9.heap.size W9 W → Calls Tryz.prog 48 #[.agg #[.bool s8, .slice p8 l8 c8], .agg #[.bool s, .slice p l c]] W fun e w' => ∃ u q r, e = .returned (.string u) ∧ IsDiv (numT (strOf f.bd)) g q r ∧ IsText q u ∧ Below W9.heap.size W9 w') := fun W hW => by
            refine (quotientText_any 0 s8 p8 l8 c8 s p l c _ g W (Nat.zero_le _) ((HZ9.out.below hW).mono (Nat.zero_le _) (by omega)) (((HM9.out.below hW).div).mono (Nat.zero_le _) (by omega)) H0.out (HT.out.below (HM9.out.below hW).ts.bel)).mono ?_
            rintro e w' ⟨u, q, r, rfl, h1, h2, h3⟩
            exact ⟨u, q, r, rfl, h1, h2, hW.trans (h3.mono hW.size)⟩
          obtain ⟨m1, ⟨m2, m3⟩, ⟨m4, m5⟩, ⟨m6, m7, m8⟩, m9, m10, m11⟩ := HCF.out W9 (Below.refl _ _)
          go_region_with (go_at_call 48; refine (HQT.out _ (Below.refl _ _).drew).mono ?_; rintro e w9 ⟨u, q9, r9, rfl, hd9, hu9, hb9⟩; have HD9 := hidG hd9; have HU9 := hidG hu9; have HB9 := hidG hb9; obtain ⟨m1, ⟨m2, m3⟩, ⟨m4, m5⟩, ⟨m6, m7, m8⟩, m9, m10, m11⟩ := HCF.out w9 hb9; clear hd9 hu9 hb9)
          all_goals
            go_wp2_with fail
            have ht9 := HM9.out.below HB9.out
            have hE := ((ht9.ts.qbx.set 0 (.slice p3 f.cs.length c3)).set 1 (.bool false)).set 2 (.string u)
            obtain ⟨e0, e1, e2⟩ := hE.c3
            have hw1 : w.heap.size + 1 < w.heap.size + 1 + 1 := Nat.lt_succ_self _
            have hO := own_lower (ownsRow_setCell_below (ownsRow_setCell_below (ownsRow_setCell_below ht9.ts.own (a := ⟨w.heap.size + 1, 0, none⟩) hw1 (.slice p3 f.cs.length c3)) (a := ⟨w.heap.size + 1, 1, none⟩) hw1 (.bool false)) (a := ⟨w.heap.size + 1, 2, none⟩) hw1 (.string u)) (base' := w.heap.size) (by omega)
            have hBE := ((ht9.ts.bel.setCell (p := ⟨w.heap.size + 1, 0, none⟩) (by show _ ≤ w.heap.size + 1; omega) (.slice p3 f.cs.length c3)).setCell (p := ⟨w.heap.size + 1, 1, none⟩) (by show _ ≤ w.heap.size + 1; omega) (.bool false)).setCell (p := ⟨w.heap.size + 1, 2, none⟩) (by show _ ≤ w.heap.size + 1; omega) (.string u)
            have hTT := tight_new HWD.out H0.out HML.out HM1.out (show IsDiv (numT (strOf f.bd) - if f.st = true then 1 else 0) g q9 r9 by rw [HST.out]; simpa using HD9.out) HU9.out
            refine bodyPost_ret (v := .agg #[.slice p3 f.cs.length c3, .bool false, .string u]) ?_ rfl ⟨_, ⟨M, false, u.data.toList⟩, by rw [strOf_data], by rw [HML.out]; exact hO, hTT, hBE⟩
            clear hE hO hBE
            simp [results, Tryz.results27, go_sem, e0, e1, e2]
        | true =>
          rw [hst] at b1
          have HST := hidG hst
          clear hst
          go_wp2_with (rw [HW9.out])
          have HCG : Hid (∀ W, Below W9.heap.size W9 W → (W.cell? ⟨w8.heap.size, 0, none⟩ = some (.bool s8) ∧ W.cell? ⟨w8.heap.size, 1, none⟩ = some (.slice p8 l8 c8)) ∧ W.frozen? ⟨w8.heap.size, 0, none⟩ = false ∧ W.frozen? ⟨w8.heap.size, 1, none⟩ = false) := fun W hW => by
            have h2 := HX9.out.below HX9.out.lt hW
            exact ⟨h2.c2, h2.frozen 0, h2.frozen 1⟩
          have HWN : Hid (∀ W, Below W9.heap.size W9 W → Calls Tryz.prog 51 #[.int .u64 1] W fun e w' => ∃ z, e = .returned z ∧ IsI W9.heap.size w' z 1 3 ∧ Below W9.heap.size W9 w') := fun W hW => by
            refine (wholeNumber_any 1 W (by decide)).mono ?_
            rintro e w' ⟨z, rfl, h1, h2⟩
            exact ⟨z, rfl, h1.mono hW.size (Nat.le_refl _), hW.trans (h2.mono hW.size)⟩
          have HMI : Hid (∀ W z, Below W9.heap.size W9 W → IsI W9.heap.size W z 1 3 → Calls Tryz.prog 50 #[.agg #[.bool s8, .slice p8 l8 c8], z] W fun e w' => ∃ z', e = .returned z' ∧ IsI W9.heap.size w' z' (numT (strOf f.bd) - 1) 284 ∧ Below W9.heap.size W9 w') := fun W z hW hz => by
            refine (minus_any 0 _ _ _ _ 280 3 W ((HZ9.out.below hW).mono (Nat.zero_le _) (Nat.le_refl _)) (hz.mono (Nat.zero_le _) (Nat.le_refl _)) (by omega) (by omega) (HT.out.below (HM9.out.below hW).ts.bel).1).mono ?_
            rintro e w' ⟨z', rfl, h1, h2⟩
            exact ⟨z', rfl, h1.mono hW.size (Nat.le_refl _), hW.trans (h2.mono hW.size)⟩
          obtain ⟨⟨m1, m2⟩, m3, m4⟩ := HCG.out W9 (Below.refl _ _)
          go_region_with (first
            | (go_at_call 51; refine (HWN.out _ (Below.refl _ _).drew).mono ?_; rintro e wa ⟨za, rfl, hza, hba⟩; obtain ⟨sa, pa, la, ca, rfl⟩ := hza.shape; have HZA := hidG hza; have HBA := hidG hba; obtain ⟨⟨m1, m2⟩, m3, m4⟩ := HCG.out wa hba; clear hza hba)
            | (go_at_call 50; refine (HMI.out _ _ HBA.out HZA.out).mono ?_; rintro e wb ⟨zb, rfl, hzb, hbb⟩; obtain ⟨sb, pb, lb, cb, rfl⟩ := hzb.shape; have HZB := hidG hzb; have HBB := hidG hbb; obtain ⟨⟨m1, m2⟩, m3, m4⟩ := HCG.out wb hbb; clear hzb hbb))
          all_goals
           go_wp2_with fail
           obtain ⟨WC, hWC⟩ : ∃ WC, (wb.setCell ⟨w8.heap.size, 0, none⟩ (.bool sb)).setCell ⟨w8.heap.size, 1, none⟩ (.slice pb lb cb) = WC := ⟨_, rfl⟩
           have HMC : Hid (TL w W4.heap.size w5.heap.size p3 f.cs.length c3 f.st f.bd s p l c g M WC) := by
             unfold Hid
             rw [← hWC]
             exact TL.far HM.out (TL.far HM.out (HM9.out.below HBB.out) HS8.out _ _) HS8.out _ _
           have HXC : Hid (Bx WC w8.heap.size [.bool sb, .slice pb lb cb]) := by
             unfold Hid
             rw [← hWC]
             exact ((HX9.out.below HX9.out.lt HBB.out).set 0 _).set 1 _
           have HZC : Hid (IsI W9.heap.size WC (.agg #[.bool sb, .slice pb lb cb]) (numT (strOf f.bd) - 1) 284) := by
             unfold Hid
             rw [← hWC]
             exact (HZB.out.setCell ⟨w8.heap.size, 0, none⟩ _ HX9.out.lt).setCell ⟨w8.heap.size, 1, none⟩ _ HX9.out.lt
           rw [hWC]
           clear hWC m1 m2 m3 m4
           have HCF : Hid (∀ W, Below WC.heap.size WC W → W.cell? ⟨w.heap.size, 0, none⟩ = some (.slice p3 f.cs.length c3) ∧ (W.cell? ⟨w8.heap.size, 0, none⟩ = some (.bool sb) ∧ W.cell? ⟨w8.heap.size, 1, none⟩ = some (.slice pb lb cb)) ∧ (W.cell? ⟨w5.heap.size, 0, none⟩ = some (.bool s) ∧ W.cell? ⟨w5.heap.size, 1, none⟩ = some (.slice p l c)) ∧ (W.cell? ⟨w.heap.size + 1, 0, none⟩ = some (.slice none 0 0) ∧ W.cell? ⟨w.heap.size + 1, 1, none⟩ = some (.bool false) ∧ W.cell? ⟨w.heap.size + 1, 2, none⟩ = some (.string ⟨#[]⟩)) ∧ W.frozen? ⟨w.heap.size + 1, 0, none⟩ = false ∧ W.frozen? ⟨w.heap.size + 1, 1, none⟩ = false ∧ W.frozen? ⟨w.heap.size + 1, 2, none⟩ = false) := fun W hW => by
             have h1 := HMC.out.below hW
             have h2 := HXC.out.below HXC.out.lt hW
             exact ⟨h1.ts.rbx.c3.1, h2.c2, h1.dbx.c2, h1.ts.qbx.c3, h1.ts.qbx.frozen 0, h1.ts.qbx.frozen 1, h1.ts.qbx.frozen 2⟩
           have HQT : Hid (∀ W, Below WC.heap.size WC W → Calls Tryz.prog 48 #[.agg #[.bool sb, .slice pb lb cb], .agg #[.bool s, .slice p l c]] W fun e w' => ∃ u q r, e = .returned (.string u) ∧ IsDiv (numT (strOf f.bd) - 1) g q r ∧ IsText q u ∧ Below WC.heap.size WC w') := fun W hW => by
             refine (quotientText_any 0 sb pb lb cb s p l c _ g W (Nat.zero_le _) ((HZC.out.below hW).mono (Nat.zero_le _) (by omega)) (((HMC.out.below hW).div).mono (Nat.zero_le _) (by omega)) H0.out (HT.out.below (HMC.out.below hW).ts.bel)).mono ?_
             rintro e w' ⟨u, q, r, rfl, h1, h2, h3⟩
             exact ⟨u, q, r, rfl, h1, h2, hW.trans (h3.mono hW.size)⟩
           obtain ⟨m1, ⟨m2, m3⟩, ⟨m4, m5⟩, ⟨m6, m7, m8⟩, m9, m10, m11⟩ := HCF.out WC (Below.refl _ _)
           go_region_with (go_at_call 48; refine (HQT.out _ (Below.refl _ _).drew).mono ?_; rintro e w9 ⟨u, q9, r9, rfl, hd9, hu9, hb9⟩; have HD9 := hidG hd9; have HU9 := hidG hu9; have HB9 := hidG hb9; obtain ⟨m1, ⟨m2, m3⟩, ⟨m4, m5⟩, ⟨m6, m7, m8⟩, m9, m10, m11⟩ := HCF.out w9 hb9; clear hd9 hu9 hb9)
           all_goals
             go_wp2_with fail
             have ht9 := HMC.out.below HB9.out
             have hE := ((ht9.ts.qbx.set 0 (.slice p3 f.cs.length c3)).set 1 (.bool false)).set 2 (.string u)
             obtain ⟨e0, e1, e2⟩ := hE.c3
             have hw1 : w.heap.size + 1 < w.heap.size + 1 + 1 := Nat.lt_succ_self _
             have hO := own_lower (ownsRow_setCell_below (ownsRow_setCell_below (ownsRow_setCell_below ht9.ts.own (a := ⟨w.heap.size + 1, 0, none⟩) hw1 (.slice p3 f.cs.length c3)) (a := ⟨w.heap.size + 1, 1, none⟩) hw1 (.bool false)) (a := ⟨w.heap.size + 1, 2, none⟩) hw1 (.string u)) (base' := w.heap.size) (by omega)
             have hBE := ((ht9.ts.bel.setCell (p := ⟨w.heap.size + 1, 0, none⟩) (by show _ ≤ w.heap.size + 1; omega) (.slice p3 f.cs.length c3)).setCell (p := ⟨w.heap.size + 1, 1, none⟩) (by show _ ≤ w.heap.size + 1; omega) (.bool false)).setCell (p := ⟨w.heap.size + 1, 2, none⟩) (by show _ ≤ w.heap.size + 1; omega) (.string u)
             have hTT := tight_new HWD.out H0.out HML.out HM1.out (show IsDiv (numT (strOf f.bd) - if f.st = true then 1 else 0) g q9 r9 by rw [HST.out]; simpa using HD9.out) HU9.out
             refine bodyPost_ret (v := .agg #[.slice p3 f.cs.length c3, .bool false, .string u]) ?_ rfl ⟨_, ⟨M, false, u.data.toList⟩, by rw [strOf_data], by rw [HML.out]; exact hO, hTT, hBE⟩
             clear hE hO hBE
             simp [results, Tryz.results27, go_sem, e0, e1, e2]
end Go.Proofs.YtebldkelihmihaaGreatDoor.L

import Derived.Test.YtpimiboiogfhbaaGreatDoorMtFG
namespace Go.Proofs.YtpimiboiogfhbaaGreatDoor.L
open Go.ChangeShapes Go.WideShapes Go.ChangeAt Go.RowKit
theorem info_lr0 : (Tryz.prog.info? 63).map (fun i => (i.zero, i.size, i.bytes)) = some (some (.agg #[.slice none 0 0, .bool false, .int .i64 0, .bool false, .slice none 0 0, .int .i64 0, .bool false, .slice none 0 0]), 8, 112) := by kernel_rfl
theorem info_lr : ∃ i : TypeInfo, Tryz.prog.info? 63 = some i ∧ i.zero = some (.agg #[.slice none 0 0, .bool false, .int .i64 0, .bool false, .slice none 0 0, .int .i64 0, .bool false, .slice none 0 0]) ∧ i.size = 8 ∧ i.bytes = 112 := info_parts info_lr0
theorem qz_mk {B : Nat} {W : World} {a b c d e f : Value} {x y : Int} (h : IsQN B W (.agg #[a, b, c, d, e, f]) x y) (o : Option Nat) (ho : ∀ b, B ≤ b → b < W.heap.size → o ≠ some b) : Qz B W [a, b, c, d, e, f] x y o := by
  obtain ⟨a', b', c', d', e', f', e, hq⟩ := qz_of h o ho
  simp only [Value.agg.injEq, Array.mk.injEq, List.cons.injEq, and_true] at e
  obtain ⟨rfl, rfl, rfl, rfl, rfl, rfl⟩ := e
  exact hq
/-- The inner loop's state. -/
structure RS (W1 wc : World) (bx : Nat) (va : Value) (rest : List Value) (Q : List (Int × Int)) (W : World) : Prop where
  box : Bx W bx (va :: rest)
  row : QRow wc.heap.size W va Q
  same : ∀ b, b < wc.heap.size → b ≠ bx → W.heap[b]? = wc.heap[b]?
  size : wc.heap.size ≤ W.heap.size
  bel : Below W1.heap.size W1 W
theorem Bx.c8 {W : World} {g : Nat} {a0 a1 a2 a3 a4 a5 a6 a7 : Value} (h : Bx W g [a0, a1, a2, a3, a4, a5, a6, a7]) : W.cell? ⟨g, 0, none⟩ = some a0 ∧ W.cell? ⟨g, 1, none⟩ = some a1 ∧ W.cell? ⟨g, 2, none⟩ = some a2 ∧ W.cell? ⟨g, 3, none⟩ = some a3 ∧ W.cell? ⟨g, 4, none⟩ = some a4 ∧ W.cell? ⟨g, 5, none⟩ = some a5 ∧ W.cell? ⟨g, 6, none⟩ = some a6 ∧ W.cell? ⟨g, 7, none⟩ = some a7 := ⟨h.cell 0, h.cell 1, h.cell 2, h.cell 3, h.cell 4, h.cell 5, h.cell 6, h.cell 7⟩
theorem set8_same (xs : List Value) (i : Nat) (h : i * 8 + 8 ≤ xs.length) (a0 a1 a2 a3 a4 a5 a6 a7 : Value) : (((((((((xs.set (i * 8) a0).set (i * 8 + 1) a1).set (i * 8 + 2) a2).set (i * 8 + 3) a3).set (i * 8 + 4) a4).set (i * 8 + 5) a5).set (i * 8 + 6) a6).set (i * 8 + 7) a7).drop (i * 8)).take 8 = [a0, a1, a2, a3, a4, a5, a6, a7] := by
  apply List.ext_getElem?
  intro n
  by_cases hn : n < 8
  · rw [List.getElem?_take_of_lt hn, List.getElem?_drop]
    have hc : n = 0 ∨ n = 1 ∨ n = 2 ∨ n = 3 ∨ n = 4 ∨ n = 5 ∨ n = 6 ∨ n = 7 := by omega
    rcases hc with rfl | rfl | rfl | rfl | rfl | rfl | rfl | rfl
    · show (_ : List Value)[i * 8]? = _
      rw [List.getElem?_set_ne (by omega), List.getElem?_set_ne (by omega), List.getElem?_set_ne (by omega), List.getElem?_set_ne (by omega), List.getElem?_set_ne (by omega), List.getElem?_set_ne (by omega), List.getElem?_set_ne (by omega), List.getElem?_set_self (by omega)]; rfl
    · rw [List.getElem?_set_ne (by omega), List.getElem?_set_ne (by omega), List.getElem?_set_ne (by omega), List.getElem?_set_ne (by omega), List.getElem?_set_ne (by omega), List.getElem?_set_ne (by omega), List.getElem?_set_self (by simp; omega)]; rfl
    · rw [List.getElem?_set_ne (by omega), List.getElem?_set_ne (by omega), List.getElem?_set_ne (by omega), List.getElem?_set_ne (by omega), List.getElem?_set_ne (by omega), List.getElem?_set_self (by simp; omega)]; rfl
    · rw [List.getElem?_set_ne (by omega), List.getElem?_set_ne (by omega), List.getElem?_set_ne (by omega), List.getElem?_set_ne (by omega), List.getElem?_set_self (by simp; omega)]; rfl
    · rw [List.getElem?_set_ne (by omega), List.getElem?_set_ne (by omega), List.getElem?_set_ne (by omega), List.getElem?_set_self (by simp; omega)]; rfl
    · rw [List.getElem?_set_ne (by omega), List.getElem?_set_ne (by omega), List.getElem?_set_self (by simp; omega)]; rfl
    · rw [List.getElem?_set_ne (by omega), List.getElem?_set_self (by simp; omega)]; rfl
    · rw [List.getElem?_set_self (by simp; omega)]; rfl
  · rw [List.getElem?_eq_none (by simp; omega), List.getElem?_eq_none (by simp; omega)]
theorem set8_other (xs : List Value) (i j : Nat) (hij : j ≠ i) (a0 a1 a2 a3 a4 a5 a6 a7 : Value) : (((((((((xs.set (i * 8) a0).set (i * 8 + 1) a1).set (i * 8 + 2) a2).set (i * 8 + 3) a3).set (i * 8 + 4) a4).set (i * 8 + 5) a5).set (i * 8 + 6) a6).set (i * 8 + 7) a7).drop (j * 8)).take 8 = (xs.drop (j * 8)).take 8 := by
  apply List.ext_getElem?
  intro n
  by_cases hn : n < 8
  · rw [List.getElem?_take_of_lt hn, List.getElem?_drop, List.getElem?_take_of_lt hn, List.getElem?_drop, List.getElem?_set_ne (by omega), List.getElem?_set_ne (by omega), List.getElem?_set_ne (by omega), List.getElem?_set_ne (by omega), List.getElem?_set_ne (by omega), List.getElem?_set_ne (by omega), List.getElem?_set_ne (by omega), List.getElem?_set_ne (by omega)]
  · rw [List.getElem?_eq_none (by simp; omega), List.getElem?_eq_none (by simp; omega)]
theorem put8 {P : World → Prop} {g : Nat} (h : ∀ W j u, P W → P (W.setCell ⟨g, j, none⟩ u)) {W : World} (h0 : P W) (j0 j1 j2 j3 j4 j5 j6 j7 : Nat) (u0 u1 u2 u3 u4 u5 u6 u7 : Value) : P ((((((((W.setCell ⟨g, j0, none⟩ u0).setCell ⟨g, j1, none⟩ u1).setCell ⟨g, j2, none⟩ u2).setCell ⟨g, j3, none⟩ u3).setCell ⟨g, j4, none⟩ u4).setCell ⟨g, j5, none⟩ u5).setCell ⟨g, j6, none⟩ u6).setCell ⟨g, j7, none⟩ u7) := (h _ _ _ (h _ _ _ (h _ _ _ (h _ _ _ (h _ _ _ (h _ _ _ (h _ _ _ (h _ _ _ h0))))))))
set_option maxRecDepth 100000 in
set_option maxHeartbeats 20000000 in
theorem l12Read_any (v : Value) (F : List Lr) (w : World) (h : RowsAt w v F) (hs : F.length ≤ 1048576 ∧ ∀ f ∈ F, SmallR f) (hok : ∀ f ∈ F, textOk f.bd = true ∧ f.cs.all textOk = true ∧ f.cs.length ≤ 20) :
    Calls Tryz.prog 17 #[v] w fun e w' => ∃ v', e = .returned v' ∧ (∃ p c, v' = .slice p F.length c) ∧ RRow w.heap.size (w.heap.size + 1) w' v' F ∧ Below w.heap.size w w' := by
  obtain ⟨p, c, rfl, l1, m1, r1⟩ := h
  unfold maxLen at m1
  have H1 := hidG r1
  have HSM := hidG hs.2
  have hl := hs.1
  have HOK := hidG hok
  obtain ⟨i0, hinf, hz0, hz1, hz2⟩ := info_lr
  clear r1 hs hok
  go_enter Tryz.func17, Tryz.ntmps17
  go_wp2_with (at_make; refine wpList_make_full _ rfl _ _ 46 rfl w.heap.size 63 i0 _ 8 Tryz.underlying46 hinf hz0 hz1 .i64 .i64 _ _ F.length rfl rfl (by simp) (by simp) (by rw [hz2]; omega) (by unfold maxLen; omega) (Nat.le_refl _) ?_)
  intro w1 hown1 hgr
  have HB1 : Hid (Below w.heap.size w w1) := (Below.refl _ _).grown hgr (Nat.le_refl _) (fun k e => by cases e)
  have HO1 := hidG hown1
  clear hown1 hgr
  go_wp2_with fail
  go_loopw [14] (fun iv wr => ∃ (i : Nat) (ys : List Value), i ≤ F.length ∧ iv = .int .i64 (i : Nat) ∧ wr.ownsRow w.heap.size 63 8 (.slice (some ⟨w.heap.size, 0, none⟩) F.length F.length) F.length ys ∧ (∀ j (_ : j < F.length), j < i → Rz (w.heap.size + 1) wr ((ys.drop (j * 8)).take 8) F[j]) ∧ Below w.heap.size w wr) (fun iv _ => F.length - (intOf iv).toNat)
  case atStart => exact ⟨0, _, Nat.zero_le _, rfl, HO1.out, fun j _ h => absurd h (Nat.not_lt_zero _), HB1.out⟩
  case round =>
    rename World => wo
    obtain ⟨i, ys, hi, rfl, hown, hall, hB⟩ := hrel
    have HOWN := hidG hown
    have HALL := hidG hall
    have HB := hidG hB
    have hwo : w.heap.size + 1 ≤ wo.heap.size := (hown.lt _ rfl).2
    clear hown hall HO1
    by_cases hlt : i < F.length
    · obtain ⟨b, rfl, hb, hA⟩ : ∃ b, p = some ⟨b, 0, none⟩ ∧ b < w.heap.size ∧ ∀ i (h : i < F.length), (∃ va, w.cell? ⟨b, i * 3, none⟩ = some va ∧ StrsAt w va F[i].cs) ∧ w.cell? ⟨b, i * 3 + 1, none⟩ = some (.bool F[i].st) ∧ w.cell? ⟨b, i * 3 + 2, none⟩ = some (.string (strOf F[i].bd)) := by
        rcases H1.out with h | h
        · rw [h] at hlt; exact absurd hlt (Nat.not_lt_zero _)
        · exact h
      obtain ⟨⟨va, k0, hva⟩, k1, k2⟩ := hA i hlt
      rw [← hB.cell (p := ⟨b, i * 3, none⟩) hb] at k0
      rw [← hB.cell (p := ⟨b, i * 3 + 1, none⟩) hb] at k1
      rw [← hB.cell (p := ⟨b, i * 3 + 2, none⟩) hb] at k2
      have HSF := hidG (HSM.out _ (List.getElem_mem hlt))
      have HOF := hidG (HOK.out _ (List.getElem_mem hlt))
      obtain ⟨f, hf⟩ : ∃ f, F[i] = f := ⟨_, rfl⟩
      have HF := hidG hf
      rw [hf] at k1 k2 hva HSF HOF
      have HVA := hidG (hva.below hB)
      obtain ⟨pa, ca, rfl, va1, va2, va3⟩ := hva
      unfold maxLen at va2
      obtain ⟨W1, hW1⟩ : ∃ W1, wo.alloc (.cells #[.slice pa f.cs.length ca, .bool f.st, .string (strOf f.bd)] 48) = W1 := ⟨_, rfl⟩
      have hB1 : Below wo.heap.size wo W1 := by rw [← hW1]; exact below_alloc _ _
      have hX1 : Bx W1 wo.heap.size [.slice pa f.cs.length ca, .bool f.st, .string (strOf f.bd)] := by rw [← hW1]; exact bx_new wo _ _
      have HW1 := hidG hW1
      have HX1 := hidG hX1
      have HBW1 := hidG hB1
      have hs1 : W1.heap.size = wo.heap.size + 1 := by rw [← hW1]; simp
      have HS1 := hidG hs1
      have HRB : Hid (∀ W, Calls Tryz.prog 15 #[.string (strOf f.bd)] W fun e w' => ∃ z, e = .returned z ∧ IsQN W.heap.size w' z (numT (strOf f.bd)) 1 ∧ Below W.heap.size W w') := fun W => l2ReadI_any _ W HSF.out.2 HOF.out.1
      clear hf hA va3 hW1 hB1 hX1 hB hs1
      go_upto_region 1 with (rw [HW1.out])
      go_cut [6] (fun s6 wx => ∃ (bx : Nat) (c0 c1 c2 c3 c4 c5 : Value), s6 = .pointer (some ⟨bx, 0, none⟩) ∧ wo.heap.size + 1 ≤ bx ∧ Bx wx bx [.slice none 0 0, .bool f.st, c0, c1, c2, c3, c4, c5] ∧ Qz (wo.heap.size + 1) wx [c0, c1, c2, c3, c4, c5] (numT (strOf f.bd)) 1 (some bx) ∧ Below W1.heap.size W1 wx)
      case first =>
        have HCC : Hid (∀ W, Below W1.heap.size W1 W → W.cell? ⟨wo.heap.size, 1, none⟩ = some (.bool f.st) ∧ W.cell? ⟨wo.heap.size, 2, none⟩ = some (.string (strOf f.bd))) := fun W hW => (HX1.out.below HX1.out.lt hW).c3.2
        obtain ⟨m1, m2⟩ := HCC.out W1 (Below.refl _ _)
        have q1 : wo.heap.size < W1.heap.size := HX1.out.lt
        go_region_law
          ((go_simp; refine (HRB.out _).mono ?_; rintro e w2 ⟨z, rfl, hz, hb2⟩; have HB2 : Hid (Below W1.heap.size W1 w2) := (by first | (exact ⟨hb2.os, hb2.tape, hb2.output, hb2.size, hb2.block⟩) | (exact (up_alloc (Below.refl _ _).drew _).trans (hb2.mono (by simp)))); obtain ⟨zp0, zpn, zpa, zpl, zpc, zq0, zqn, zqa, zql, zqc, rfl, -, -⟩ := id hz; have HZ2 := hidG hz; obtain ⟨m3, m4⟩ := HCC.out w2 HB2.out; have q2 : wo.heap.size < w2.heap.size := Nat.lt_of_lt_of_le q1 HB2.out.size; try (have hnb : Bx w2 W1.heap.size [.slice none 0 0, .bool false, .int .i64 0, .bool false, .slice none 0 0, .int .i64 0, .bool false, .slice none 0 0] := (bx_new W1.drew [.slice none 0 0, .bool false, .int .i64 0, .bool false, .slice none 0 0, .int .i64 0, .bool false, .slice none 0 0] 63).below (bx_new W1.drew [.slice none 0 0, .bool false, .int .i64 0, .bool false, .slice none 0 0, .int .i64 0, .bool false, .slice none 0 0] 63).lt hb2; obtain ⟨n0, n1, n2, n3, n4, n5, n6, n7⟩ := hnb.c8; have g0 := hnb.frozen 0; have g1 := hnb.frozen 1; have g2 := hnb.frozen 2; have g3 := hnb.frozen 3; have g4 := hnb.frozen 4; have g5 := hnb.frozen 5; have g6 := hnb.frozen 6; have g7 := hnb.frozen 7; have HNB := hidG hnb; clear hnb); clear hz hb2; go_wp2_with fail))
        all_goals
          go_wp2_with fail
          go_meet
          have hs1 := HS1.out
          have hs2 := HB2.out.size
          first
            | (have hnb := HNB.out
               refine ⟨W1.heap.size, _, _, _, _, _, _, rfl, by omega, (((((((hnb.set 0 _).set 1 _).set 2 _).set 3 _).set 4 _).set 5 _).set 6 _).set 7 _, ?_, ?_⟩
               · refine Qz.mono (B := W1.heap.size + 1) ?_ (by omega)
                 exact put8 (P := fun W => Qz (W1.heap.size + 1) W [.int .i64 zp0, .bool zpn, .slice zpa zpl zpc, .int .i64 zq0, .bool zqn, .slice zqa zql zqc] (numT (strOf f.bd)) 1 (some W1.heap.size)) (fun W j u h => h.low ⟨W1.heap.size, j, none⟩ u (Nat.lt_succ_self _)) ((qz_mk HZ2.out (some W1.heap.size) (fun b h1 _ h => by injection h with h; simp at h1; omega)).mono (B' := W1.heap.size + 1) (by simp)) _ _ _ _ _ _ _ _ _ _ _ _ _ _ _ _
               · exact put8 (P := fun W => Below W1.heap.size W1 W) (fun W j u h => h.setCell (p := ⟨W1.heap.size, j, none⟩) (Nat.le_refl _) u) HB2.out _ _ _ _ _ _ _ _ _ _ _ _ _ _ _ _)
            | (refine ⟨w2.heap.size, _, _, _, _, _, _, rfl, by omega, bx_new w2 _ _, ?_, HB2.out.alloc hs2 _⟩
               exact ((qz_mk HZ2.out (some w2.heap.size) (fun b _ hlt h => by injection h with h; omega)).mono (B' := wo.heap.size + 1) (by show wo.heap.size + 1 ≤ W1.heap.size; omega)).below (below_alloc _ _))
      case rest =>
        obtain ⟨bx, c0, c1, c2, c3, c4, c5, rfl, hbx, hX, hQ, hBc⟩ := hcut
        have HQ := hidG hQ
        obtain ⟨zp0, zpn, zpa, zpl, zpc, zq0, zqn, zqa, zql, zqc, e6⟩ := hQ.shape
        simp only [List.cons.injEq, and_true] at e6
        obtain ⟨rfl, rfl, rfl, rfl, rfl, rfl⟩ := e6
        have HBX := hidG hbx
        have HRS0 : Hid (RS W1 wc bx (.slice none 0 0) [.bool f.st, .int .i64 zp0, .bool zpn, .slice zpa zpl zpc, .int .i64 zq0, .bool zqn, .slice zqa zql zqc] [] wc) := ⟨hX, QRow.nil _ _, fun _ _ _ => rfl, Nat.le_refl _, hBc⟩
        obtain ⟨r0, r1, r2⟩ := (HX1.out.below HX1.out.lt hBc).c3
        have hbxw : bx < wc.heap.size := hX.lt
        clear hX hQ hBc hbx
        go_wp2_with fail
        go_loopw [28] (fun jv wr => ∃ (k : Nat) (vq : Value), k ≤ f.cs.length ∧ jv = .int .i64 (k : Nat) ∧ RS W1 wc bx vq [.bool f.st, .int .i64 zp0, .bool zpn, .slice zpa zpl zpc, .int .i64 zq0, .bool zqn, .slice zqa zql zqc] ((f.cs.take k).map (fun s => (numT (strOf s), 1))) wr) (fun jv _ => f.cs.length - (intOf jv).toNat)
        case atStart => exact ⟨0, _, Nat.zero_le _, rfl, HRS0.out⟩
        case round =>
          rename World => wi
          obtain ⟨k, vq, hk, rfl, hR⟩ := hrel
          have HR := hidG hR
          by_cases hkl : k < f.cs.length
          · obtain ⟨pq, cq, rfl⟩ := hR.row.form
            have hlenk : ((f.cs.take k).map (fun s => (numT (strOf s), (1 : Int)))).length = k := by simp; omega
            rw [hlenk] at HR hR
            obtain ⟨pa', ca', e', -, -, hcell⟩ := HVA.out
            simp only [Value.slice.injEq] at e'
            obtain ⟨rfl, -, rfl⟩ := e'
            obtain ⟨b3, rfl, hb3, hc3⟩ : ∃ b3, pa = some ⟨b3, 0, none⟩ ∧ b3 < wo.heap.size ∧ ∀ i (h : i < f.cs.length), wo.cell? ⟨b3, i, none⟩ = some (.string (strOf f.cs[i])) := by
              rcases hcell with h | h
              · rw [h] at hkl; exact absurd hkl (Nat.not_lt_zero _)
              · exact h
            have k3 := hc3 k hkl
            rw [← (HBW1.out.trans (hR.bel.mono HBW1.out.size)).cell (p := ⟨b3, k, none⟩) hb3] at k3
            have HRC : Hid (∀ W, Calls Tryz.prog 15 #[.string (strOf f.cs[k])] W fun e w' => ∃ z, e = .returned z ∧ IsQN W.heap.size w' z (numT (strOf f.cs[k])) 1 ∧ Below W.heap.size W w') := fun W => l2ReadI_any _ W (HSF.out.1.2 _ (List.getElem_mem hkl)) (List.all_eq_true.1 HOF.out.2.1 _ (List.getElem_mem hkl))
            have HTK : Hid ((f.cs.take (k + 1)).map (fun s => (numT (strOf s), (1 : Int))) = (f.cs.take k).map (fun s => (numT (strOf s), (1 : Int))) ++ [(numT (strOf f.cs[k]), 1)]) := by
              unfold Hid
              rw [List.take_succ_eq_append_getElem hkl, List.map_append]; rfl
            obtain ⟨S, hS⟩ : ∃ S, strOf f.cs[k] = S := ⟨_, rfl⟩
            rw [hS] at k3 HRC HTK
            have q0 := hR.box.cell 0
            simp only [List.getElem?_cons_zero] at q0
            have hk20 : k ≤ 20 := by have := HOF.out.2.2; omega
            have HLK := hidG hlenk
            have HOB : Hid (∀ b, (Value.slice pq k cq).ownBlock = some b → wc.heap.size ≤ b ∧ b < wi.heap.size) := fun b e => by
              obtain ⟨xs, hr, _⟩ := hR.row
              exact hr.lt b e
            clear hS hc3 hcell hR hlenk
            go_wp2_with fail
            go_region_law
              (first
                | (refine step_appQ (W := w3) (base := wc.heap.size) (v := .slice pq k cq) (N := (f.cs.take k).map (fun s => (numT (strOf s), (1 : Int)))) (by rfl) _ _ (by rfl) (by rfl) HROW3.out HQ3.out _ (by rfl) (by rfl) k HLK.out (by omega) HS3.out ?_; intro g5 c5 w5 hrow5 hsz5 hgr5; have HR5 := hidG hrow5; have HG5 := hidG hgr5; have hx5 := bx_grown HX3.out hgr5 HNE.out; have d1 := hx5.cell 0; have e1 := hx5.frozen 0; simp only [List.getElem?_cons_zero] at d1; have HX5 := hidG hx5; clear hrow5 hgr5 hx5)
                | (go_simp; refine (HRC.out _).mono ?_; rintro e w3 ⟨z, rfl, hz, hb3x⟩; have HB3 : Hid (Below wi.heap.size wi w3) := ⟨hb3x.os, hb3x.tape, hb3x.output, hb3x.size, hb3x.block⟩; obtain ⟨yp0, ypn, ypa, ypl, ypc, yq0, yqn, yqa, yql, yqc, rfl, -, -⟩ := id hz; have HQ3 : Hid (Qz wc.heap.size w3 [.int .i64 yp0, .bool ypn, .slice ypa ypl ypc, .int .i64 yq0, .bool yqn, .slice yqa yql yqc] (numT S) 1 (Value.slice pq k cq).ownBlock) := (qz_mk hz _ (fun b h1 _ h3 => Nat.lt_irrefl _ (Nat.lt_of_lt_of_le (HOB.out b h3).2 h1))).mono HR.out.size; have HROW3 : Hid (QRow wc.heap.size w3 (.slice pq k cq) ((f.cs.take k).map (fun s => (numT (strOf s), (1 : Int))))) := HR.out.row.below HB3.out; have HS3 : Hid (wc.heap.size ≤ w3.heap.size) := Nat.le_trans HR.out.size HB3.out.size; have HX3 := hidG (HR.out.box.below HR.out.box.lt HB3.out); have HNE : Hid ((Value.slice pq k cq).ownBlock ≠ some bx) := fun e => Nat.lt_irrefl _ (Nat.lt_of_lt_of_le hbxw (HOB.out bx e).1); have d0 : w3.cell? ⟨bx, 0, none⟩ = some (.slice pq k cq) := HX3.out.cell 0; have q3 : bx < w3.heap.size := HX3.out.lt; clear hz hb3x; go_wp2_with fail))
            all_goals
              go_wp2_with fail
              refine ⟨⟨k + 1, .slice (some ⟨g5, 0, none⟩) (k + 1) c5, by omega, by go_num, ?_⟩, by simp [intOf]; omega⟩
              rw [HTK.out]
              have hw1c : W1.heap.size ≤ bx := by have := HS1.out; have := HBX.out; omega
              have hb3 := HR.out.bel.trans (HB3.out.mono HR.out.bel.size)
              refine ⟨HX5.out.set 0 _, HR5.out.low ⟨bx, 0, none⟩ _ hbxw, fun b h1 h2 => ?_, ?_, ?_⟩
              · have h4 := HR.out.size
                have h5 := HB3.out.size
                rw [Below.heap_setCell _ ⟨bx, 0, none⟩ _ _ h2, HG5.out.block b (by omega) (fun e => by have := (HOB.out b e.symm).1; omega), HB3.out.block b (by omega)]
                exact HR.out.same b h1 h2
              · have h4 := HR.out.size
                have h5 := HB3.out.size
                have h6 := HG5.out.size
                simp; omega
              · exact (hb3.grown HG5.out hb3.size (fun k e => by have := (HOB.out k e).1; omega)).setCell (p := ⟨bx, 0, none⟩) hw1c _
          · have hke : k = f.cs.length := by omega
            rw [hke, List.take_length] at HR
            obtain ⟨n0, n1, n2, n3, n4, n5, n6, n7⟩ := hR.box.c8
            clear hR hke
            have HO2 : Hid (wi.ownsRow w.heap.size 63 8 (.slice (some ⟨w.heap.size, 0, none⟩) F.length F.length) F.length ys) := by
              have hb := HBW1.out.trans (HR.out.bel.mono HBW1.out.size)
              exact row_below HOWN.out hb
            obtain ⟨o0, t0⟩ := row_at HO2.out (i * 8) (by omega)
            obtain ⟨o1, t1⟩ := row_at HO2.out (i * 8 + 1) (by omega)
            obtain ⟨o2, t2⟩ := row_at HO2.out (i * 8 + 2) (by omega)
            obtain ⟨o3, t3⟩ := row_at HO2.out (i * 8 + 3) (by omega)
            obtain ⟨o4, t4⟩ := row_at HO2.out (i * 8 + 4) (by omega)
            obtain ⟨o5, t5⟩ := row_at HO2.out (i * 8 + 5) (by omega)
            obtain ⟨o6, t6⟩ := row_at HO2.out (i * 8 + 6) (by omega)
            obtain ⟨o7, t7⟩ := row_at HO2.out (i * 8 + 7) (by omega)
            have g0 := HO2.out.frozenAt (i * 8)
            have g1 := HO2.out.frozenAt (i * 8 + 1)
            have g2 := HO2.out.frozenAt (i * 8 + 2)
            have g3 := HO2.out.frozenAt (i * 8 + 3)
            have g4 := HO2.out.frozenAt (i * 8 + 4)
            have g5 := HO2.out.frozenAt (i * 8 + 5)
            have g6 := HO2.out.frozenAt (i * 8 + 6)
            have g7 := HO2.out.frozenAt (i * 8 + 7)
            obtain ⟨pq, cq, rfl⟩ := HR.out.row.form
            rw [List.length_map] at HR n0
            have HOW := hidG (((((((((HO2.out.stored (i * 8) (.slice pq f.cs.length cq)).1.stored (i * 8 + 1) (.bool f.st)).1.stored (i * 8 + 2) (.int .i64 zp0)).1.stored (i * 8 + 3) (.bool zpn)).1.stored (i * 8 + 4) (.slice zpa zpl zpc)).1.stored (i * 8 + 5) (.int .i64 zq0)).1.stored (i * 8 + 6) (.bool zqn)).1.stored (i * 8 + 7) (.slice zqa zql zqc)).1)
            clear t0 t1 t2 t3 t4 t5 t6 t7 g0 g1 g2 g3 g4 g5 g6 g7
            obtain ⟨o0, t0⟩ := row_at HO2.out (i * 8) (by omega)
            obtain ⟨o1, t1⟩ := row_at HO2.out (i * 8 + 1) (by omega)
            obtain ⟨o2, t2⟩ := row_at HO2.out (i * 8 + 2) (by omega)
            obtain ⟨o3, t3⟩ := row_at HO2.out (i * 8 + 3) (by omega)
            obtain ⟨o4, t4⟩ := row_at HO2.out (i * 8 + 4) (by omega)
            obtain ⟨o5, t5⟩ := row_at HO2.out (i * 8 + 5) (by omega)
            obtain ⟨o6, t6⟩ := row_at HO2.out (i * 8 + 6) (by omega)
            obtain ⟨o7, t7⟩ := row_at HO2.out (i * 8 + 7) (by omega)
            have g0 := HO2.out.frozenAt (i * 8)
            have g1 := HO2.out.frozenAt (i * 8 + 1)
            have g2 := HO2.out.frozenAt (i * 8 + 2)
            have g3 := HO2.out.frozenAt (i * 8 + 3)
            have g4 := HO2.out.frozenAt (i * 8 + 4)
            have g5 := HO2.out.frozenAt (i * 8 + 5)
            have g6 := HO2.out.frozenAt (i * 8 + 6)
            have g7 := HO2.out.frozenAt (i * 8 + 7)
            go_wp2_with fail
            have hbi := HBW1.out.trans (HR.out.bel.mono HBW1.out.size)
            have hys : ys.length = F.length * 8 := HOWN.out.1
            refine ⟨⟨i + 1, _, by omega, by go_num, HOW.out, fun j hj hji => ?_, ?_⟩, by simp [intOf]; omega⟩
            · by_cases e : j = i
              · subst e
                rw [set8_same _ _ (by omega), HF.out]
                refine ⟨_, _, _, _, _, _, _, rfl, ?_, ?_⟩
                · exact put8 (P := fun W => QRow (w.heap.size + 1) W (.slice pq f.cs.length cq) (f.cs.map (fun s => (numT (strOf s), 1)))) (fun W j u h => h.low ⟨w.heap.size, j, none⟩ u (Nat.lt_succ_self _)) (HR.out.row.mono (by have := HS1.out; have := HBX.out; omega)) _ _ _ _ _ _ _ _ _ _ _ _ _ _ _ _
                · have hq : Qz (w.heap.size + 1) wi [.int .i64 zp0, .bool zpn, .slice zpa zpl zpc, .int .i64 zq0, .bool zqn, .slice zqa zql zqc] (numT (strOf f.bd)) 1 none := (HQ.out.kept HR.out.size (fun b _ h2 h3 => HR.out.same b h2 (fun e => h3 (by rw [e]))) (fun _ _ _ _ h => by cases h)).mono (by omega)
                  exact put8 (P := fun W => Qz (w.heap.size + 1) W [.int .i64 zp0, .bool zpn, .slice zpa zpl zpc, .int .i64 zq0, .bool zqn, .slice zqa zql zqc] (numT (strOf f.bd)) 1 none) (fun W j u h => h.low ⟨w.heap.size, j, none⟩ u (Nat.lt_succ_self _)) hq _ _ _ _ _ _ _ _ _ _ _ _ _ _ _ _
              · rw [set8_other _ _ _ e]
                exact put8 (P := fun W => Rz (w.heap.size + 1) W ((ys.drop (j * 8)).take 8) F[j]) (fun W j u h => h.low ⟨w.heap.size, j, none⟩ u (Nat.lt_succ_self _)) ((HALL.out j hj (by omega)).below hbi) _ _ _ _ _ _ _ _ _ _ _ _ _ _ _ _
            · exact put8 (P := fun W => Below w.heap.size w W) (fun W j u h => h.setCell (p := ⟨w.heap.size, j, none⟩) (Nat.le_refl _) u) (HB.out.trans (hbi.mono HB.out.size)) _ _ _ _ _ _ _ _ _ _ _ _ _ _ _ _
    · have hie : i = F.length := by omega
      subst hie
      clear hB
      go_wp2_with fail
      go_ret
      exact ⟨_, rfl, ⟨_, _, rfl⟩, ⟨ys, HOWN.out, fun j hj => HALL.out j hj hj⟩, HB.out⟩
end Go.Proofs.YtpimiboiogfhbaaGreatDoor.L

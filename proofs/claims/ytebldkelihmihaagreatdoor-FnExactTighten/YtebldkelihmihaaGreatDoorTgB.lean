import Derived.Test.YtebldkelihmihaaGreatDoorTgML
namespace Go.Proofs.YtebldkelihmihaaGreatDoor.L
open Go.ChangeShapes Go.WideShapes Go.ChangeAt Go.RowKit
theorem step_appS {ops : Array Oper} {o : Oper} {a : Act} {K : Act → World → Prop} {Q : Exit → Act → World → Prop} {E : Prop} {W : World} {t : ByteArray} {base n : Nat} {v : Value} {xs : List Value} (hgd : o.guard = none) (s y : Operand)
    (ho : o.op = .call { callee := .builtin .append, args := #[s, y], argTypes := #[42, 42] }) (hs : a.eval s = v) (hown : W.ownsRow base 9 1 v n xs)
    (hx : a.eval y = .slice (some ⟨W.heap.size, 0, none⟩) 1 1) (hn : n ≤ 1000000000) (hbase : base ≤ W.heap.size)
    (h : ∀ g cap W', W'.ownsRow base 9 1 (.slice (some ⟨g, 0, none⟩) (n + 1) cap) (n + 1) (xs ++ [.string t]) → (W.alloc (.cells #[.string t] 9)).grownBy W' v.ownBlock → K (a.put o.dst (.slice (some ⟨g, 0, none⟩) (n + 1) cap)) W') :
    if Region.wanted o (yielded ops a.tmps) = true then Oper.wp Tryz.prog o a (W.alloc (.cells #[.string t] 9)) K Q else E := by
  obtain ⟨i0, hinf, hz0, hz1, hz2⟩ := info_str
  refine step_append_lies _ hgd s y 42 ho base 9 i0 (.string ⟨#[]⟩) 1 16 Tryz.underlying42 hinf hz0 hz1 hz2 rfl (by decide) v n xs hs (hown.alloc _) ⟨W.heap.size, 0, none⟩ 1 1 [.string t] hx rfl
    (World.news_of_block (cs := #[.string t]) (t := 9) (fr := (0, 0)) (heap_alloc_new W _)) (by simp [Value.oneCell']) (by decide) (by unfold maxLen; omega) (by omega) (by simp; omega) _ rfl ?_
  intro g cap W' h1 h2 _ _
  exact h g cap W' h1 h2
theorem fullT_text (ng : Bool) (t : List Nat) (h : t.length ≤ 200) : fullT ng t = textT ng t := by
  have h1 := textD_len t
  unfold fullT textT textS
  by_cases h0 : t.length = 0
  · rw [if_pos h0, if_pos h0]
  · have h2 : ¬ 2500 < (textD t).length := by omega
    rw [if_neg h0, if_neg h0]
    simp only [if_neg h2]
theorem l2TextN_any (p0 : Int) (pn : Bool) (pa : Option Addr) (pl pc : Nat) (q0 : Int) (qn : Bool) (qa : Option Addr) (ql qc : Nat) (x : Int) (w : World) (h : IsQN 0 w (.agg #[.int .i64 p0, .bool pn, .slice pa pl pc, .int .i64 q0, .bool qn, .slice qa ql qc]) x 1) (hx : x.natAbs < 1000000000 ^ 6) :
    Calls Tryz.prog 40 #[.agg #[.int .i64 p0, .bool pn, .slice pa pl pc, .int .i64 q0, .bool qn, .slice qa ql qc]] w fun e w' => ∃ u, e = .returned (.string u) ∧ IsText x u ∧ Below w.heap.size w w' := by
  obtain ⟨_, _, _, _, _, _, _, _, _, _, e, h1, h2⟩ := id h
  simp only [Value.agg.injEq, Array.mk.injEq, List.cons.injEq, and_true] at e
  obtain ⟨e0, e1, e2, e3, e4, e5⟩ := e
  rw [← e0, ← e1, ← e2] at h1
  rw [← e3, ← e4, ← e5] at h2
  obtain ⟨n1, t1, k1, k2, k3⟩ := numZ_of (numZ_isN h1) hx
  obtain ⟨n2, t2, m1, m2, m3⟩ := numZ_of (N := 6) (numZ_isN h2) (by decide)
  refine (l2Text_any 0 p0 pn pa pl pc q0 qn qa ql qc n1 n2 t1 t2 x 1 w (Nat.zero_le _) h k1 m1 (by omega) (by omega)).mono ?_
  rintro e w' ⟨rfl, hb⟩
  refine ⟨_, rfl, ⟨n1, t1, k1.1, k1.2.1, k2, ?_⟩, hb⟩
  rw [if_pos rfl]
  exact fullT_text _ _ (by omega)
structure BS (W1 wc : World) (bx : Nat) (va : Value) (rest : List Value) (T : List (List UInt8)) (W : World) : Prop where
  box : Bx W bx (va :: rest)
  row : W.ownsRow wc.heap.size 9 1 va T.length (strsC T)
  same : ∀ b, b < wc.heap.size → b ≠ bx → W.heap[b]? = wc.heap[b]?
  size : wc.heap.size ≤ W.heap.size
  bel : Below W1.heap.size W1 W
theorem strsC_app (T : List (List UInt8)) (u : ByteArray) : strsC T ++ [.string u] = strsC (T ++ [u.data.toList]) := by unfold strsC; rw [List.map_append, List.map_cons, List.map_nil, strOf_data]
def BackR (G : List Nr) (w : World) (e : Ending) (w' : World) : Prop := ∃ v' F A, e = .returned v' ∧ OutR w.heap.size w' v' F A ∧ F.length = G.length ∧ (∀ i, i < G.length → SaidN (G.getD i ⟨[], false, 0⟩) (F.getD i ⟨[], false, []⟩)) ∧ Below w.heap.size w w'
set_option maxRecDepth 100000 in
set_option maxHeartbeats 20000000 in
theorem l13Back_any (v : Value) (G : List Nr) (base : Nat) (w : World) (hG : RRow base 0 w v G) (hok : ∀ f ∈ G, f.cs.length ≤ 20 ∧ SmN f) (hl : G.length ≤ 50) :
    Calls Tryz.prog 22 #[v] w (BackR G w) := by
  have HG := hidG hG
  have HOK := hidG hok
  obtain ⟨p, c, rfl⟩ := hG.form
  clear hG hok
  go_enter Tryz.func22, Tryz.ntmps22
  go_wp2_with fail
  go_loopw [3, 11] (fun tv iv wr => ∃ (k : Nat) (F : List Lr) (A : List Value), k ≤ G.length ∧ iv = .int .i64 (k : Nat) ∧ OutR w.heap.size wr tv F A ∧ F.length = k ∧ (∀ i, i < k → SaidN (G.getD i ⟨[], false, 0⟩) (F.getD i ⟨[], false, []⟩)) ∧ Below w.heap.size w wr) (fun _ iv _ => G.length - (intOf iv).toNat)
  case atStart => exact ⟨0, [], [], Nat.zero_le _, rfl, OutR.nil _ _, rfl, fun i h => absurd h (Nat.not_lt_zero _), Below.refl _ _⟩
  case round =>
    rename World => wo
    obtain ⟨k, F, A, hk, rfl, hO, hFl, hTT, hB⟩ := hrel
    have HO := hidG hO
    have HFL := hidG hFl
    have HTT := hidG hTT
    have HBo := hidG hB
    clear hTT hFl
    by_cases hlt : k < G.length
    · obtain ⟨b, rfl⟩ : ∃ b, p = some ⟨b, 0, none⟩ := by
        obtain ⟨xs, h1, _⟩ := HG.out
        rcases h1.2 with ⟨_, e⟩ | ⟨g, _, _, e, _⟩
        · omega
        · cases e; exact ⟨g, rfl⟩
      obtain ⟨va, c0, c1, c2, c3, c4, c5, ⟨k0, k1, k2, k3, k4, k5, k6, k7⟩, hq, hz, hb⟩ := (HG.out.below hB).at hlt
      have HOF := hidG (HOK.out _ (List.getElem_mem hlt))
      have HGD : Hid (G.getD k ⟨[], false, 0⟩ = G[k]) := by unfold Hid; rw [List.getD_eq_getElem?_getD, List.getElem?_eq_getElem hlt]; rfl
      obtain ⟨f, hf⟩ : ∃ f, G[k] = f := ⟨_, rfl⟩
      rw [hf] at k1 hq hz HOF HGD
      obtain ⟨pv, cv, rfl⟩ := hO.form
      have HQ := hidG hq
      obtain ⟨pa, ca, rfl⟩ := hq.form
      rw [List.length_map] at HQ k0
      obtain ⟨zp0, zpn, zpa, zpl, zpc, zq0, zqn, zqa, zql, zqc, e6⟩ := hz.shape
      simp only [List.cons.injEq, and_true] at e6
      obtain ⟨rfl, rfl, rfl, rfl, rfl, rfl⟩ := e6
      have HZ := hidG hz
      obtain ⟨W1, hW1⟩ : ∃ W1, wo.alloc (.cells #[.slice pa f.cs.length ca, .bool f.st, .int .i64 zp0, .bool zpn, .slice zpa zpl zpc, .int .i64 zq0, .bool zqn, .slice zqa zql zqc] 76) = W1 := ⟨_, rfl⟩
      have hB1 : Below wo.heap.size wo W1 := by rw [← hW1]; exact below_alloc _ _
      have hX1 : Bx W1 wo.heap.size [.slice pa f.cs.length ca, .bool f.st, .int .i64 zp0, .bool zpn, .slice zpa zpl zpc, .int .i64 zq0, .bool zqn, .slice zqa zql zqc] := by rw [← hW1]; exact bx_new wo _ _
      have HW1 := hidG hW1
      have HX1 := hidG hX1
      have HBW1 := hidG hB1
      have hs1 : W1.heap.size = wo.heap.size + 1 := by rw [← hW1]; simp
      have HS1 := hidG hs1
      have HTB : Hid (∀ W, Below W1.heap.size W1 W → Calls Tryz.prog 40 #[.agg #[.int .i64 zp0, .bool zpn, .slice zpa zpl zpc, .int .i64 zq0, .bool zqn, .slice zqa zql zqc]] W fun e w' => ∃ u, e = .returned (.string u) ∧ IsText f.bd u ∧ Below W.heap.size W w') := fun W hW => by
        refine (l2TextN_any _ _ _ _ _ _ _ _ _ _ f.bd W ((HZ.out.below (HBW1.out.trans (hW.mono HBW1.out.size))).isQN) HOF.out.2.2).mono ?_
        rintro e w' ⟨u, rfl, h1, h2⟩
        exact ⟨u, rfl, h1, h2⟩
      clear hf hW1 hB1 hX1 hB hs1 hO hq hz
      go_upto_region 1 with (rw [HW1.out])
      go_cut [6] (fun s6 wx => ∃ (bx : Nat) (u : ByteArray), s6 = .pointer (some ⟨bx, 0, none⟩) ∧ wo.heap.size + 1 ≤ bx ∧ Bx wx bx [.slice none 0 0, .bool f.st, .string u] ∧ IsText f.bd u ∧ Below W1.heap.size W1 wx)
      case first =>
        have HCC : Hid (∀ W, Below W1.heap.size W1 W → W.cell? ⟨wo.heap.size, 1, none⟩ = some (.bool f.st) ∧ W.cell? ⟨wo.heap.size, 2, none⟩ = some (.int .i64 zp0) ∧ W.cell? ⟨wo.heap.size, 3, none⟩ = some (.bool zpn) ∧ W.cell? ⟨wo.heap.size, 4, none⟩ = some (.slice zpa zpl zpc) ∧ W.cell? ⟨wo.heap.size, 5, none⟩ = some (.int .i64 zq0) ∧ W.cell? ⟨wo.heap.size, 6, none⟩ = some (.bool zqn) ∧ W.cell? ⟨wo.heap.size, 7, none⟩ = some (.slice zqa zql zqc)) := fun W hW => (HX1.out.below HX1.out.lt hW).c8.2
        obtain ⟨m1, m2, m3, m4, m5, m6, m7⟩ := HCC.out W1 (Below.refl _ _)
        have q1 : wo.heap.size < W1.heap.size := HX1.out.lt
        go_region_law
          ((go_simp; refine (HTB.out _ (by first | exact (Below.refl _ _).drew | exact up_alloc (Below.refl _ _).drew _)).mono ?_; rintro e w2 ⟨u, rfl, hu, hb2⟩; have HB2 : Hid (Below W1.heap.size W1 w2) := (by first | (exact ⟨hb2.os, hb2.tape, hb2.output, hb2.size, hb2.block⟩) | (exact (up_alloc (Below.refl _ _).drew _).trans (hb2.mono (by simp)))); have HU := hidG hu; obtain ⟨m1, m2, m3, m4, m5, m6, m7⟩ := HCC.out w2 HB2.out; have q2 : wo.heap.size < w2.heap.size := Nat.lt_of_lt_of_le q1 HB2.out.size; try (have hnb : Bx w2 W1.heap.size [.slice none 0 0, .bool false, .string ⟨#[]⟩] := (bx_new W1.drew [.slice none 0 0, .bool false, .string ⟨#[]⟩] 50).below (bx_new W1.drew [.slice none 0 0, .bool false, .string ⟨#[]⟩] 50).lt hb2; obtain ⟨n0, n1, n2⟩ := hnb.c3; have g0 := hnb.frozen 0; have g1 := hnb.frozen 1; have g2 := hnb.frozen 2; have HNB := hidG hnb; clear hnb); clear hu hb2; go_wp2_with fail))
        all_goals
          go_wp2_with fail
          go_meet
          have hs1 := HS1.out
          have hs2 := HB2.out.size
          first
            | (have hnb := HNB.out
               exact ⟨W1.heap.size, u, rfl, by omega, ((hnb.set 0 _).set 1 _).set 2 _, HU.out, ((HB2.out.setCell (p := ⟨W1.heap.size, 0, none⟩) (Nat.le_refl _) _).setCell (p := ⟨W1.heap.size, 1, none⟩) (Nat.le_refl _) _).setCell (p := ⟨W1.heap.size, 2, none⟩) (Nat.le_refl _) _⟩)
            | exact ⟨w2.heap.size, u, rfl, by omega, bx_new w2 _ _, HU.out, HB2.out.alloc hs2 _⟩
      case rest =>
        obtain ⟨bx, u, rfl, hbx, hX, hu, hBc⟩ := hcut
        obtain ⟨ub, rfl⟩ : ∃ ub, u = strOf ub := ⟨u.data.toList, (strOf_data u).symm⟩
        have HU := hidG hu
        have HBX := hidG hbx
        have HBS0 : Hid (BS W1 wc bx (.slice none 0 0) [.bool f.st, .string (strOf ub)] [] wc) := ⟨hX, World.ownsRow_nil _ _ _ _, fun _ _ _ => rfl, Nat.le_refl _, hBc⟩
        obtain ⟨r0, -⟩ := (HX1.out.below HX1.out.lt hBc).c8
        have hbxw : bx < wc.heap.size := hX.lt
        clear hX hu hBc hbx
        go_wp2_with fail
        go_loopw [24] (fun jv wr => ∃ (j : Nat) (vq : Value) (T : List (List UInt8)), j ≤ f.cs.length ∧ jv = .int .i64 (j : Nat) ∧ T.length = j ∧ (∀ i, i < j → IsText (f.cs.getD i 0) (strOf (T.getD i []))) ∧ BS W1 wc bx vq [.bool f.st, .string (strOf ub)] T wr) (fun jv _ => f.cs.length - (intOf jv).toNat)
        case atStart => exact ⟨0, _, [], Nat.zero_le _, rfl, rfl, fun i h => absurd h (Nat.not_lt_zero _), HBS0.out⟩
        case round =>
          rename World => wi
          obtain ⟨j, vq, T, hj, rfl, hTl, hTx, hR⟩ := hrel
          have HR := hidG hR
          have HTL := hidG hTl
          have HTX := hidG hTx
          clear HBS0 hTl hTx
          have hBi := HBW1.out.trans (hR.bel.mono HBW1.out.size)
          have HBI := hidG hBi
          by_cases hjl : j < f.cs.length
          · have HCD : Hid (f.cs.getD j 0 = f.cs[j]) := by unfold Hid; rw [List.getD_eq_getElem?_getD, List.getElem?_eq_getElem hjl]; rfl
            have HC6 : Hid (f.cs[j].natAbs < 1000000000 ^ 6) := HOF.out.2.1 _ (List.getElem_mem hjl)
            obtain ⟨pq, cq, rfl, -⟩ := own_form hR.row
            obtain ⟨gq, a0, a1, a2, a3, a4, a5, a6, a7, a8, a9, rfl, hgq, ⟨q0, q1, q2, q3, q4, q5⟩, hqn⟩ := (HQ.out.below hBi).at (i := j) (by rw [List.length_map]; exact hjl)
            rw [List.getElem_map] at hqn
            obtain ⟨W5, hW5⟩ : ∃ W5, wi.alloc (.cells #[.int .i64 a0, .bool a1, .slice a2 a3 a4, .int .i64 a5, .bool a6, .slice a7 a8 a9] 74) = W5 := ⟨_, rfl⟩
            have hB5 : Below wi.heap.size wi W5 := by rw [← hW5]; exact below_alloc _ _
            have hX5 : Bx W5 wi.heap.size [.int .i64 a0, .bool a1, .slice a2 a3 a4, .int .i64 a5, .bool a6, .slice a7 a8 a9] := by rw [← hW5]; exact bx_new wi _ _
            have HW5 := hidG hW5
            have HB5 := hidG hB5
            have HQ5 := hidG (hqn.below hB5)
            have HTC : Hid (∀ W, Below W5.heap.size W5 W → Calls Tryz.prog 40 #[.agg #[.int .i64 a0, .bool a1, .slice a2 a3 a4, .int .i64 a5, .bool a6, .slice a7 a8 a9]] W fun e w' => ∃ u, e = .returned (.string u) ∧ IsText f.cs[j] u ∧ Below W5.heap.size W5 w') := fun W hW => by
              refine (l2TextN_any _ _ _ _ _ _ _ _ _ _ _ W (HQ5.out.below hW) HC6.out).mono ?_
              rintro e w' ⟨u, rfl, h1, h2⟩
              exact ⟨u, rfl, h1, hW.trans (h2.mono hW.size)⟩
            have HCQ : Hid (∀ W, Below W5.heap.size W5 W → W.cell? ⟨wi.heap.size, 0, none⟩ = some (.int .i64 a0) ∧ W.cell? ⟨wi.heap.size, 1, none⟩ = some (.bool a1) ∧ W.cell? ⟨wi.heap.size, 2, none⟩ = some (.slice a2 a3 a4) ∧ W.cell? ⟨wi.heap.size, 3, none⟩ = some (.int .i64 a5) ∧ W.cell? ⟨wi.heap.size, 4, none⟩ = some (.bool a6) ∧ W.cell? ⟨wi.heap.size, 5, none⟩ = some (.slice a7 a8 a9)) := fun W hW => (hX5.below hX5.lt hW).c6
            obtain ⟨y0, y1, y2, y3, y4, y5⟩ := hX5.c6
            have HRB := hidG (hR.box.below hR.box.lt hB5)
            have d0 := HRB.out.cell 0
            simp only [List.getElem?_cons_zero] at d0
            have hj20 : j ≤ 20 := by have := HOF.out.1; omega
            have q5b : bx < W5.heap.size := HRB.out.lt
            have HOB : Hid (∀ b, (Value.slice pq T.length cq).ownBlock = some b → wc.heap.size ≤ b ∧ b < wi.heap.size) := fun b e => hR.row.lt b e
            have i2 : (j : Int) < (f.cs.length : Int) := by omega
            clear hW5 hB5 hX5 hR hqn hBi
            go_wp2_with (rw [HW5.out])
            go_region_law
              (first
                | (refine step_appS (W := w4) (t := u4) (n := T.length) (base := wc.heap.size) (v := .slice pq T.length cq) (xs := strsC T) (by rfl) _ _ (by rfl) (by rfl) HROW4.out (by rfl) HTN.out HS4.out ?_; intro g5 c5 w5 hrow5 hgr5; have HR5 := hidG hrow5; have HG5 := hidG hgr5; have hx5 := bx_grown (HX4.out.alloc _) hgr5 HNE.out; have d1 := hx5.cell 0; have e1 := hx5.frozen 0; simp only [List.getElem?_cons_zero] at d1; have HX5 := hidG hx5; clear hrow5 hgr5 hx5)
                | (go_simp; refine (HTC.out _ (Below.refl _ _).drew).mono ?_; rintro e w4 ⟨u4, rfl, hu4, hb4⟩; have HU4 := hidG hu4; have HB4 := hidG hb4; have HBi4 : Hid (Below wi.heap.size wi w4) := HB5.out.trans (hb4.mono HB5.out.size); have HROW4 : Hid (w4.ownsRow wc.heap.size 9 1 (.slice pq T.length cq) T.length (strsC T)) := row_below HR.out.row HBi4.out; have HS4 : Hid (wc.heap.size ≤ w4.heap.size) := Nat.le_trans HR.out.size HBi4.out.size; have HTN : Hid (T.length ≤ 1000000000) := (by have := HTL.out; unfold Hid; omega); have HX4 := hidG (HR.out.box.below HR.out.box.lt HBi4.out); have HNE : Hid ((Value.slice pq T.length cq).ownBlock ≠ some bx) := fun e => Nat.lt_irrefl _ (Nat.lt_of_lt_of_le hbxw (HOB.out _ e).1); have d0 : w4.cell? ⟨bx, 0, none⟩ = some (.slice pq T.length cq) := HX4.out.cell 0; have q3 : bx < w4.heap.size := HX4.out.lt; clear hu4 hb4; go_wp2_with fail))
            all_goals
              go_wp2_with fail
              refine ⟨⟨j + 1, .slice (some ⟨g5, 0, none⟩) (T.length + 1) c5, T ++ [u4.data.toList], by omega, by go_num, by rw [List.length_append, HTL.out]; rfl, fun i hi => ?_, ?_⟩, by simp [intOf]; omega⟩
              · have htl := HTL.out
                by_cases e : i = j
                · subst e
                  rw [HCD.out, List.getD_eq_getElem?_getD (l := T ++ [u4.data.toList]), List.getElem?_append_right (by omega), htl, Nat.sub_self]
                  show IsText _ (strOf u4.data.toList)
                  rw [strOf_data]
                  exact HU4.out
                · have := HTX.out i (by omega)
                  rw [List.getD_eq_getElem?_getD (l := T)] at this
                  rw [List.getD_eq_getElem?_getD (l := T ++ [u4.data.toList]), List.getElem?_append_left (by omega)]
                  exact this
              · have hw1c : W1.heap.size ≤ bx := by have := HS1.out; have := HBX.out; omega
                have hb4 := HR.out.bel.trans (HBi4.out.mono HR.out.bel.size)
                have hg4 : w4.grownBy w5 (Value.slice pq T.length cq).ownBlock := (World.grownBy_alloc w4 _ _).trans HG5.out
                have hrow : w5.ownsRow wc.heap.size 9 1 (.slice (some ⟨g5, 0, none⟩) (T.length + 1) c5) (T ++ [u4.data.toList]).length (strsC (T ++ [u4.data.toList])) := by
                  rw [← strsC_app, List.length_append]
                  exact HR5.out
                refine ⟨HX5.out.set 0 _, ownsRow_setCell_below hrow (a := ⟨bx, 0, none⟩) hbxw _, fun b h1 h2 => ?_, ?_, ?_⟩
                · have h4 := HR.out.size
                  have h5 := HBi4.out.size
                  rw [Below.heap_setCell _ ⟨bx, 0, none⟩ _ _ h2, hg4.block b (by omega) (fun e => by have := (HOB.out b e.symm).1; omega), HBi4.out.block b (by omega)]
                  exact HR.out.same b h1 h2
                · have h4 := HR.out.size
                  have h5 := HBi4.out.size
                  have h6 := hg4.size
                  simp; omega
                · exact (hb4.grown hg4 hb4.size (fun k e => by have := (HOB.out k e).1; omega)).setCell (p := ⟨bx, 0, none⟩) hw1c _
          · have hje : j = f.cs.length := by omega
            rw [hje] at HTL HTX
            obtain ⟨pq, cq, rfl, -⟩ := own_form hR.row
            obtain ⟨n0, n1, n2⟩ := hR.box.c3
            clear hR hje hBi
            go_wp2_with (at_builtin; refine wpList_appR (W := wi) (base := w.heap.size) (F := F) (A := A) (f := (Lr.mk T f.st ub)) rfl _ _ rfl rfl ?own ?va ?hne _ rfl ?hH k ?hk ?hn ?hb ?_)
            case own => exact HO.out.below HBI.out
            case va => exact own_lower HR.out.row (Nat.le_trans HBo.out.size (Nat.le_trans HBW1.out.size (by have := HS1.out; have := HBX.out; omega)))
            case hne =>
              intro b hb a ha hab
              obtain ⟨i, hi, rfl⟩ := List.getElem_of_mem ha
              have h1 := own_base HR.out.row b hb
              have h2 := ((HO.out.rows i hi (by rw [← HO.out.len]; exact hi)).lt b hab).2
              have h3 := HBX.out
              omega
            case hH => rfl
            case hk => exact HFL.out
            case hn => omega
            case hb => exact Nat.le_trans HBo.out.size HBI.out.size
            intro g5 c5 w5 hout5 hsz5 hgr5
            have HO5 := hidG hout5
            have HB5 : Hid (Below w.heap.size w w5) := by
              have hbw := HBo.out.trans (HBI.out.mono HBo.out.size)
              exact hbw.grown hgr5 hbw.size (fun b hb => (HO.out.own.lt b hb).1)
            have HSD : Hid (SaidN f (Lr.mk T f.st ub)) := ⟨rfl, HTL.out, HTX.out, HU.out⟩
            have HNX : Hid (∀ i, i < k + 1 → SaidN (G.getD i ⟨[], false, 0⟩) ((F ++ [(Lr.mk T f.st ub)]).getD i ⟨[], false, []⟩)) := fun i hi => by
              have hfl := HFL.out
              by_cases e : i = k
              · subst e
                rw [HGD.out, List.getD_eq_getElem?_getD (l := F ++ [(Lr.mk T f.st ub)]), List.getElem?_append_right (by omega), hfl, Nat.sub_self]
                exact HSD.out
              · have := HTT.out i (by omega)
                rw [List.getD_eq_getElem?_getD (l := F)] at this
                rw [List.getD_eq_getElem?_getD (l := F ++ [(Lr.mk T f.st ub)]), List.getElem?_append_left (by omega)]
                exact this
            clear hout5 hgr5
            go_wp2_with fail
            go_roundw
            case rel => exact ⟨k + 1, F ++ [(Lr.mk T f.st ub)], A ++ [_], by omega, by go_num, HO5.out, by rw [List.length_append, HFL.out]; rfl, HNX.out, HB5.out⟩
            case measure => simp [intOf]; omega
    · have hke : k = G.length := by omega
      rw [hke] at HFL HTT
      clear hB hO
      go_wp2_with fail
      go_ret
      exact ⟨_, F, A, rfl, HO.out, HFL.out, HTT.out, HBo.out⟩
end Go.Proofs.YtebldkelihmihaaGreatDoor.L

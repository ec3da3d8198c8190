import Derived.Test.YtknfmkeipeikkaaGreatDoorTtVW
namespace Go.Proofs.YtknfmkeipeikkaaGreatDoor.L
open Go.ChangeShapes Go.WideShapes Go.ChangeAt Go.RowKit
theorem floor_sm {x y q r : Int} (h : IsDiv x y q r) (hx : x.natAbs ≤ 8) (hy : 0 < y) : q.natAbs ≤ 8 := by
  obtain ⟨h1, h2, h3⟩ := h
  have h4 : r < y := by omega
  by_cases a : 8 < q
  · have := Int.mul_le_mul_of_nonneg_right (show (9 : Int) ≤ q by omega) (Int.le_of_lt hy)
    omega
  · by_cases b : q < -8
    · have := Int.mul_le_mul_of_nonneg_right (show q ≤ -9 by omega) (Int.le_of_lt hy)
      omega
    · omega
set_option maxRecDepth 100000 in
set_option maxHeartbeats 1000000 in
theorem ratFloorS_any (s : List UInt8) (x y : Int) (w : World) (h : SmallT s x y) :
    Calls Tryz.prog 17 #[.string (strOf s)] w fun e w' => ∃ (s' : List UInt8) (q : Int), e = .returned (.string (strOf s')) ∧ SmallT s' q 1 ∧ Below w.heap.size w w' := by
  obtain ⟨⟨k, hk, hV⟩, hx, hy, hl⟩ := h
  have hy0 : 0 < y := RatIs.pos ⟨k, hk, hV⟩
  have hs : (strOf s).size ≤ maxLen := by rw [strOf_size]; unfold maxLen; omega
  have HK := hidG hk
  have HV := hidG hV
  have HY : Hid (y ≠ 0) := by unfold Hid; omega
  clear hk hV
  go_enter Tryz.func17, Tryz.ntmps17
  go_wp2_with fail
  refine (specIsRat_any _ _ hs).mono ?_
  rintro e w1 ⟨b, rfl, ⟨k', hk', hiff⟩, hb1⟩
  obtain rfl := isCut_unique HK.out hk'
  obtain rfl : b = true := hiff.2 ⟨x, y, HV.out⟩
  have HB1 := hidG hb1
  clear hk' hiff hb1
  go_wp2_with fail
  refine (l2Read_any _ k x y _ hs HK.out HV.out).mono ?_
  rintro e w2 ⟨z, rfl, hz, hb2⟩
  have HZ := hidG hz
  have HB2 := hidG hb2
  have HBW2 := hidG (HB1.out.trans (hb2.mono HB1.out.size))
  obtain ⟨p0, pn, pa, pl, pc, q0, qn, qa, ql, qc, rfl, _, _⟩ := hz
  clear hb2
  go_wp2_with fail
  refine (l2Floor_any _ _ x y _ HB2.out.size HZ.out HY.out).mono ?_
  rintro e w3 ⟨z3, q, r, rfl, hn3, hdv, hb3⟩
  have hq := floor_sm hdv hx hy0
  have HN3 := hidG hn3
  have HB3 := hidG hb3
  have HBW3 := hidG (HBW2.out.trans (hb3.mono HBW2.out.size))
  clear hn3 hdv hb3
  go_wp2_with fail
  refine (toldN_any _ _ q _ HN3.out (by have := HB2.out.size; have := HB3.out.size; omega)).mono ?_
  rintro e w4 ⟨u, rfl, hu, hb4⟩
  have HF : Hid (SmallT u.data.toList q 1) := small_of (by unfold TextR; rw [if_pos rfl]; exact hu) hq (by decide) (by decide) (by simp)
  have HB4 := hidG (HBW3.out.trans (hb4.mono HBW3.out.size))
  clear hu hb4
  go_wp2
  go_ret
  exact ⟨u.data.toList, q, by rw [strOf_data]; rfl, HF.out, HB4.out⟩
/-- Those that must be whole are. -/
def WholeL (Wh : List Bool) (V : List (Int × Int)) : Prop := ∀ i (_ : i < V.length), Wh.getD i false = true → V[i].2 = 1
theorem WholeL.app {Wh : List Bool} {V : List (Int × Int)} (h : WholeL Wh V) {x y : Int} (hy : Wh.getD V.length false = true → y = 1) : WholeL Wh (V ++ [(x, y)]) := fun i hi hw => by
  by_cases e : i < V.length
  · rw [List.getElem_append_left e]
    exact h i e hw
  · have e1 : i = V.length := by simp at hi; omega
    subst e1
    rw [List.getElem_append_right (Nat.le_refl _)]
    simp only [Nat.sub_self, List.getElem_cons_zero]
    exact hy hw
def FloorP (n : Nat) (Wh : List Bool) (w : World) (e : Ending) (w' : World) : Prop := ∃ (v : Value) (L : List (List UInt8)) (V : List (Int × Int)), e = .returned v ∧ L.length = n ∧ NumL L V ∧ WholeL Wh V ∧ w'.ownsRow w.heap.size 9 1 v L.length (strsC L) ∧ Below w.heap.size w w'
set_option maxRecDepth 100000 in
set_option maxHeartbeats 4000000 in
theorem floors_any (v wv : Value) (L : List (List UInt8)) (V : List (Int × Int)) (Wh : List Bool) (w : World) (hS : StrsAt w v L) (hW : BoolsAt w wv Wh) (hN : NumL L V) (hl : L.length = Wh.length) (h30 : L.length ≤ 30) :
    Calls Tryz.prog 7 #[v, wv] w (FloorP L.length Wh w) := by
  obtain ⟨i0, hinf, hz0, hz1, hz2⟩ := info_str
  have HS := hidG hS
  have HW := hidG hW
  have HN := hidG hN
  have HL := hidG hl
  have hl' : L.length ≤ Wh.length := by omega
  obtain ⟨p, c, rfl, hlc, hcm, -⟩ := hS
  obtain ⟨pw, cw, rfl, hwc, hwm, -⟩ := hW
  clear hN hl
  go_enter Tryz.func7, Tryz.ntmps7
  go_wp2_with fail
  go_loopw [5, 10] (fun v5 iv wr => ∃ (k : Nat) (M : List (List UInt8)) (X : List (Int × Int)), k ≤ L.length ∧ iv = .int .i64 (k : Nat) ∧ M.length = k ∧ NumL M X ∧ WholeL Wh X ∧ wr.ownsRow w.heap.size 9 1 v5 M.length (strsC M) ∧ Below w.heap.size w wr) (fun _ iv _ => L.length - (intOf iv).toNat)
  case atStart => exact ⟨0, [], [], Nat.zero_le _, rfl, rfl, NumL.nil, fun i h => absurd h (Nat.not_lt_zero _), World.ownsRow_nil _ _ _ _, Below.refl _ _⟩
  case round =>
    rename World => wa
    obtain ⟨k, M, X, hk, rfl, hM, hNM, hWX, hown, hbel⟩ := hrel
    have HM := hidG hM
    have HNM := hidG hNM
    have HWX := hidG hWX
    have HOWN := hidG hown
    have HBEL := hidG hbel
    obtain ⟨p5, c5, rfl, -⟩ := own_form hown
    clear hM hNM hWX hown hbel
    by_cases hlt : k < L.length
    · have z1 : decide ((k : Int) < (L.length : Int)) = true := decide_eq_true (by omega)
      have z1' : decide (k < L.length) = true := decide_eq_true hlt
      have hkW : k < Wh.length := by omega
      have z2 : decide ((k : Int) < (Wh.length : Int)) = true := decide_eq_true (by omega)
      have z2' : decide (k < Wh.length) = true := decide_eq_true hkW
      obtain ⟨b, rfl, hb, s0⟩ : ∃ b, p = some ⟨b, 0, none⟩ ∧ b < w.heap.size ∧ w.cell? ⟨b, k, none⟩ = some (.string (strOf L[k])) := by
        obtain ⟨p', c', e, -, -, h3⟩ := HS.out
        simp only [Value.slice.injEq, true_and] at e
        obtain ⟨rfl, rfl⟩ := e
        rcases h3 with h3 | ⟨b, e, h4, h5⟩
        · rw [h3] at hlt; exact absurd hlt (Nat.not_lt_zero _)
        · exact ⟨b, e, h4, h5 k hlt⟩
      obtain ⟨bw, rfl, hbw, s1⟩ : ∃ b, pw = some ⟨b, 0, none⟩ ∧ b < w.heap.size ∧ w.cell? ⟨b, k, none⟩ = some (.bool Wh[k]) := by
        obtain ⟨p', c', e, -, -, h3⟩ := HW.out
        simp only [Value.slice.injEq, true_and] at e
        obtain ⟨rfl, rfl⟩ := e
        rcases h3 with h3 | ⟨b, e, h4, h5⟩
        · rw [h3] at hkW; exact absurd hkW (Nat.not_lt_zero _)
        · exact ⟨b, e, h4, h5 k hkW⟩
      have d0 : wa.cell? ⟨b, k, none⟩ = some (.string (strOf L[k])) := (HBEL.out.cell (p := ⟨b, k, none⟩) hb).trans s0
      have d1 : wa.cell? ⟨bw, k, none⟩ = some (.bool Wh[k]) := (HBEL.out.cell (p := ⟨bw, k, none⟩) hbw).trans s1
      have hkV : k < V.length := by rw [HN.out.1]; exact hlt
      have hsm := HN.out.2 k hlt hkV
      have hgd : Wh.getD k false = Wh[k] := by rw [List.getD_eq_getElem?_getD, List.getElem?_eq_getElem hkW]; rfl
      obtain ⟨t, ht⟩ : ∃ t, Wh[k] = t := ⟨_, rfl⟩
      obtain ⟨s, hs⟩ : ∃ s, L[k] = s := ⟨_, rfl⟩
      obtain ⟨xy, hxy⟩ : ∃ xy, V[k] = xy := ⟨_, rfl⟩
      rw [ht] at d1 hgd
      rw [hs] at d0 hsm
      rw [hxy] at hsm
      have HSM := hidG hsm
      have HGD := hidG hgd
      have hXk : X.length = k := HNM.out.1.trans HM.out
      have HXK := hidG hXk
      have hM30 : M.length ≤ 30 := by have := HM.out; omega
      clear s0 s1 ht hs hxy hsm hgd hXk
      go_upto_if 26 with fail
      go_cut [7] (fun s7 wx => ∃ (s' : List UInt8) (x y : Int), s7 = .string (strOf s') ∧ SmallT s' x y ∧ (t = true → y = 1) ∧ Below wa.heap.size wa wx)
      case first =>
        cases t
        · go_wp2_with fail
          go_meet
          exact ⟨s, xy.1, xy.2, rfl, HSM.out, (fun e => by cases e), Below.refl _ _⟩
        · go_wp2_with fail
          refine (ratFloorS_any s xy.1 xy.2 _ HSM.out).mono ?_
          rintro e w3 ⟨s', q, rfl, hs', hb3⟩
          have HS' := hidG hs'
          have HB3 := hidG hb3
          clear hs' hb3
          go_wp2_with fail
          go_meet
          exact ⟨s', q, 1, rfl, HS'.out, fun _ => rfl, HB3.out⟩
      case rest =>
        obtain ⟨s', x, y, rfl, hs', hty, hb3⟩ := hcut
        have HS' := hidG hs'
        have HTY := hidG hty
        have HB3 := hidG hb3
        rename World => w3
        have hown := own_bar HOWN.out (Bar.of (g := 0) hb3) (by omega)
        have hws : w.heap.size ≤ w3.heap.size := Nat.le_trans HBEL.out.size hb3.size
        clear hs' hty hb3
        go_wp2_with (at_builtin; refine wpList_append_own_at _ rfl _ _ 28 rfl w.heap.size 9 i0 (.string ⟨#[]⟩) 1 16 Tryz.underlying28 hinf hz0 hz1 hz2 rfl (by decide) (.slice p5 M.length c5) M.length _ rfl (hown.alloc _) ⟨w3.heap.size, 0, none⟩ 1 1 [.string (strOf s')] rfl rfl ?c1 ?c2 ?c3 ?c4 ?c5 ?_)
        case c1 =>
          intro j u hj
          match j, hj with
          | 0, hj => simp at hj; subst hj; simp [Addr.add]
        case c2 => intro u hu; simp at hu; subst hu; rfl
        case c3 => unfold maxLen; omega
        case c4 => omega
        case c5 => simp; omega
        intro v5 wb hown5 hgr5 _ _
        have hgr : w3.grownBy wb (Value.slice p5 M.length c5).ownBlock := (World.grownBy_alloc w3 _ _).trans hgr5
        have hbel : Below w.heap.size w3 wb := (Below.refl _ w3).grown hgr hws (fun b e => own_base hown b e)
        have HO10 : Hid (wb.ownsRow w.heap.size 9 1 v5 (M ++ [s']).length (strsC (M ++ [s']))) := by
          unfold Hid
          rw [List.length_append, show strsC (M ++ [s']) = strsC M ++ [.string (strOf s')] by unfold strsC; rw [List.map_append]; rfl]
          exact hown5
        have HB10 : Hid (Below w.heap.size w wb) := (HBEL.out.trans (HB3.out.mono HBEL.out.size)).trans hbel
        have HW10 : Hid (WholeL Wh (X ++ [(x, y)])) := HWX.out.app (fun e => HTY.out (by rw [HXK.out, HGD.out] at e; exact e))
        obtain ⟨p6, c6, rfl, -⟩ := own_form hown5
        clear hown5 hgr5 hgr hbel hown
        go_wp2_with fail
        refine ⟨⟨k + 1, M ++ [s'], X ++ [(x, y)], by omega, by go_num, by rw [List.length_append, HM.out]; rfl, HNM.out.app HS'.out, HW10.out, HO10.out, HB10.out⟩, by simp [intOf]; omega⟩
    · have z1 : decide ((k : Int) < (L.length : Int)) = false := decide_eq_false (by omega)
      have z1' : decide (k < L.length) = false := decide_eq_false hlt
      have hkm : M.length = L.length := by have := HM.out; omega
      have HKM := hidG hkm
      clear hkm
      go_wp2_with fail
      go_ret
      exact ⟨_, M, X, rfl, HKM.out, HNM.out, HWX.out, HOWN.out, HBEL.out⟩
theorem fine_small {f : Lr} (h : FineR f) : SmallR f := ⟨⟨by have := h.1; omega, fun s hs => by have := h.2.1 s hs; omega⟩, by have := h.2.2.1; omega⟩
theorem tight_small {Wh : List Bool} {f f' : Lr} (h : TightT Wh f f') (hl : f.cs.length ≤ 21) : SmallR f' := by
  have h1 := h.len
  obtain ⟨n, -, h2, h3, h4, h5⟩ := h
  refine ⟨⟨by omega, fun s hs => ?_⟩, ?_⟩
  · obtain ⟨i, hi, rfl⟩ := List.getElem_of_mem hs
    have := text_size (h4 i (by omega))
    rw [List.getD_eq_getElem?_getD, List.getElem?_eq_getElem hi, strOf_size] at this
    exact Nat.le_trans this (by decide)
  · have := text_size h5
    rw [strOf_size] at this
    omega
theorem mem_getD {F : List Lr} {f : Lr} (h : f ∈ F) : ∃ i, i < F.length ∧ F.getD i ⟨[], false, []⟩ = f := by
  obtain ⟨i, hi, rfl⟩ := List.getElem_of_mem h
  exact ⟨i, hi, by rw [List.getD_eq_getElem?_getD, List.getElem?_eq_getElem hi]; rfl⟩
/-- What Tighten's rows are to the law. -/
structure Tg (cols : Nat) (Wh : List Bool) (F F' : List Lr) : Prop where
  len : F'.length = F.length ∨ F'.length = 0
  flag : Wh.length = cols ∨ F'.length = 0
  small : F'.length ≤ 1048576 ∧ ∀ f ∈ F', SmallR f
  same : F'.length = F.length → Wh.length = cols → ∀ V N D, Pts Wh V → Comm V N D → meetB (cols : Int) F' V.length N D = meetB (cols : Int) F V.length N D
theorem tg_of {cols : Nat} {Wh : List Bool} {F F' : List Lr} (hF : F.length ≤ 60) (hT : ∀ f ∈ F, FineR f) (h : if flagOk (cols : Int) Wh F = true then F'.length = F.length ∧ ∀ i, i < F.length → TightT Wh (F.getD i ⟨[], false, []⟩) (F'.getD i ⟨[], false, []⟩) else F' = []) : Tg cols Wh F F' := by
  by_cases e : flagOk (cols : Int) Wh F = true
  · rw [if_pos e] at h
    obtain ⟨h1, h2⟩ := h
    refine ⟨.inl h1, .inl ?_, ⟨by omega, fun f hf => ?_⟩, fun _ _ V N D hP hC => meet_same hP hC e h1 h2 (fun f hf => (hT f hf).2.2.2)⟩
    · unfold flagOk at e
      rw [Bool.and_eq_true, decide_eq_true_eq] at e
      omega
    obtain ⟨i, hi, rfl⟩ := mem_getD hf
    refine tight_small (h2 i (by omega)) (hT _ ?_).1
    rw [List.getD_eq_getElem?_getD, List.getElem?_eq_getElem (show i < F.length by omega)]
    exact List.getElem_mem _
  · rw [if_neg e] at h
    subst h
    refine ⟨.inr rfl, .inr rfl, ⟨by simp, fun f hf => by cases hf⟩, fun h1 _ V N D _ _ => ?_⟩
    rw [List.eq_nil_of_length_eq_zero h1.symm]
theorem tg_len {cols : Nat} {Wh : List Bool} {F F' F'' : List Lr} (h : if flagOk (cols : Int) Wh F = true then F'.length = F.length ∧ ∀ i, i < F.length → TightT Wh (F.getD i ⟨[], false, []⟩) (F'.getD i ⟨[], false, []⟩) else F' = []) (h' : if flagOk (cols : Int) Wh F = true then F''.length = F.length ∧ ∀ i, i < F.length → TightT Wh (F.getD i ⟨[], false, []⟩) (F''.getD i ⟨[], false, []⟩) else F'' = []) : F'.length = F''.length := by
  by_cases e : flagOk (cols : Int) Wh F = true
  · rw [if_pos e] at h h'
    rw [h.1, h'.1]
  · rw [if_neg e] at h h'
    rw [h, h']
theorem pts_of {Wh : List Bool} {L : List (List UInt8)} {V : List (Int × Int)} (h : NumL L V) (hW : WholeL Wh V) (hl : L.length = Wh.length) : Pts Wh V ∧ Vals L V := by
  refine ⟨⟨h.1.trans hl, fun i hi => ?_⟩, h.1, fun i hi hi' => ⟨(h.2 i hi hi').1, (h.2 i hi hi').2.1, (h.2 i hi hi').2.2.1⟩⟩
  have k := h.2 i (by rw [← h.1]; exact hi) hi
  exact ⟨k.2.1, k.1.pos, k.2.2.1, hW i hi⟩
set_option maxRecDepth 100000 in
set_option maxHeartbeats 4000000 in
theorem fnTight_any (a0 : Option Addr) (len0 cap0 : Nat) (a1 : Option Addr) (len1 cap1 : Nat) (w : World) (h0 : CodeArg w a0 len0 cap0) (h1 : CodeArg w a1 len1 cap1) (hT : Tabs w) :
    Calls Tryz.prog 3 #[.slice a0 len0 cap0, .slice a1 len1 cap1] w fun e w' => e = .returned (.bool true) ∧ Below w.heap.size w w' := by
  have H0 := hidG h0
  have H1 := hidG h1
  have HT := hidG hT
  have hm0 : len0 ≤ 9223372036854775807 := Nat.le_trans h0.1 h0.2.1
  have hm1 : len1 ≤ 9223372036854775807 := Nat.le_trans h1.1 h1.2.1
  clear h0 h1 hT
  go_enter Tryz.func3, Tryz.ntmps3
  by_cases e0 : 1048576 < len0
  · have z0 : decide ((1048576 : Int) < (len0 : Int)) = true := decide_eq_true (by omega)
    go_wp2_with fail
    go_ret
    exact ⟨rfl, Below.refl _ _⟩
  have z0 : decide ((1048576 : Int) < (len0 : Int)) = false := decide_eq_false (by omega)
  by_cases e1 : 1048576 < len1
  · have z1 : decide ((1048576 : Int) < (len1 : Int)) = true := decide_eq_true (by omega)
    go_wp2_with fail
    go_ret
    exact ⟨rfl, Below.refl _ _⟩
  have z1 : decide ((1048576 : Int) < (len1 : Int)) = false := decide_eq_false (by omega)
  clear e0 e1
  go_wp2_with fail
  refine (drawTighten_any a0 len0 cap0 _ H0.out).mono ?_
  rintro e w1 ⟨cols, wv, v, Wh, F, A, base, rfl, hcols, hW, hW30, hO, hF, hFi, hb⟩
  have HR := hidG hO.at
  have HW := hidG hW.at
  have HFI := hidG hFi
  have HSM : Hid (F.length ≤ 1048576 ∧ ∀ f ∈ F, SmallR f) := ⟨by omega, fun f hf => fine_small (hFi f hf)⟩
  have HB := hidG hb
  have HP : Hid (∀ b c, v = .slice (some ⟨b, 0, none⟩) F.length c → ∀ i, i < F.length → ∀ va, w1.cell? ⟨b, i * 3, none⟩ = some va → Plain va) := fun b c e i hi va hc => by
    subst e
    have hi' : i < A.length := by rw [hO.len]; exact hi
    rw [own_read hO.own (cellsR_at F A i hi hi').1] at hc
    obtain ⟨p, c', e, hp⟩ := own_form (hO.rows i hi' hi)
    rw [e] at hc
    cases hc
    exact ⟨p, _, c', rfl, hp⟩
  obtain ⟨pw, cw, rfl, -⟩ := own_form hW
  obtain ⟨pv, cv, rfl, -⟩ := own_form hO.own
  clear hW hO hFi hb
  go_wp2_with fail
  refine (tighten_impl (cols : Int) _ _ Wh F _ HW.out HR.out HP.out HSM.out (by omega) (by omega) (HT.out.below HB.out)).mono ?_
  rintro e w2 ⟨v2, F2, A2, rfl, hO2, hI2, hb2⟩
  have HO2 := hidG hO2
  have HR2 := hidG hO2.at
  have HI2 := hidG hI2
  have HTG := hidG (tg_of hF HFI.out hI2)
  have HB12 := hidG hb2
  have HB2 := hidG (HB.out.trans (hb2.mono HB.out.size))
  obtain ⟨p2, c2, rfl⟩ := hO2.form
  clear hO2 hI2 hb2
  go_wp2_with fail
  refine (tighten_spec (cols : Int) _ _ Wh F _ (HW.out.below HB12.out) (HR.out.below HB12.out) HSM.out (by omega) (by omega)).mono ?_
  rintro e w3 ⟨v3, F3, A3, rfl, hO3, hI3, hb3⟩
  obtain ⟨p3, c3, rfl⟩ := hO3.form
  have hl23 : F2.length = F3.length := tg_len HI2.out hI3
  have y5 : ((F2.length : Int) == (F3.length : Int)) = true := by rw [beq_iff_eq, hl23]
  have y6 : ((F2.length : Int) != (F3.length : Int)) = false := by rw [bne, y5]; rfl
  have y7 : (F2.length == F3.length) = true := by rw [beq_iff_eq, hl23]
  have HB23 := hidG hb3
  have HB13 := hidG (HB12.out.trans (hb3.mono HB12.out.size))
  have HB3 := hidG (HB2.out.trans (hb3.mono HB2.out.size))
  clear hO3 hI3 hb3 hl23
  by_cases e1 : F2.length = F.length
  · have q1 : ((F2.length : Int) == (F.length : Int)) = true := by rw [beq_iff_eq]; omega
    have q2 : ((F2.length : Int) != (F.length : Int)) = false := by rw [bne, q1]; rfl
    have HE1 := hidG e1
    clear e1
    by_cases e2 : Wh.length = cols
    · have q3 : ((Wh.length : Int) == (cols : Int)) = true := by rw [beq_iff_eq]; omega
      have q4 : ((Wh.length : Int) != (cols : Int)) = false := by rw [bne, q3]; rfl
      have HE2 := hidG e2
      clear e2
      go_wp2_with fail
      go_loopw [9] (fun iv wr => ∃ (k : Nat), k ≤ 12 ∧ iv = .int .i64 (k : Nat) ∧ Below w3.heap.size w3 wr) (fun iv _ => 12 - (intOf iv).toNat)
      case atStart => exact ⟨0, by decide, rfl, Below.refl _ _⟩
      case round =>
        rename World => wa
        obtain ⟨k, hk, rfl, hba⟩ := hrel
        have HBA := hidG hba
        have HB3a := hidG (HB3.out.trans (hba.mono HB3.out.size))
        clear hba
        by_cases hlt : k < 12
        · have z3 : decide ((k : Int) < 12) = true := decide_eq_true (by omega)
          go_wp2_with fail
          refine (numbers_any a1 len1 cap1 k cols _ (H1.out.below HB3a.out) hlt (by omega)).mono ?_
          rintro e w4 ⟨v4, L4, V4, rfl, hL4, hN4, hO4, hb4⟩
          have HS4 := hidG (strs_at hO4)
          have HN4 := hidG hN4
          have HL4 := hidG hL4
          have HBa4 := hidG hb4
          have HB34 := hidG (HBA.out.trans (hb4.mono HBA.out.size))
          have HB4 := hidG (HB3.out.trans (HB34.out.mono HB3.out.size))
          obtain ⟨p4, c4, rfl, -⟩ := own_form hO4
          clear hL4 hN4 hO4 hb4
          go_wp2_with fail
          refine (floors_any _ _ L4 V4 Wh _ HS4.out (HW.out.below (HB13.out.trans (HB34.out.mono HB13.out.size))) HN4.out (by rw [HL4.out, HE2.out]) (by rw [HL4.out]; omega)).mono ?_
          rintro e w5 ⟨v5, L5, V5, rfl, hL5, hN5, hW5, hO5, hb5⟩
          have hl5 : L5.length = Wh.length := by rw [hL5, HL4.out, HE2.out]
          obtain ⟨hP5, hV5⟩ := pts_of hN5 hW5 hl5
          obtain ⟨Nn, Dd, hC5⟩ := comm_ex V5 (fun x hx => by
            obtain ⟨i, hi, rfl⟩ := List.getElem_of_mem hx
            exact (hP5.2 i hi).2.1)
          have hsame := HTG.out.same HE1.out HE2.out V5 Nn Dd hP5 hC5
          have HS5 := hidG (strs_at hO5)
          have HV5 := hidG hV5
          have HC5 := hidG hC5
          have HSM5 : Hid (SmallS L5) := ⟨by omega, fun s hs => by
            obtain ⟨i, hi, rfl⟩ := List.getElem_of_mem hs
            have := (hN5.2 i hi (by rw [hN5.1]; exact hi)).2.2.2
            omega⟩
          have HB35 := hidG (HB34.out.trans (hb5.mono HB34.out.size))
          have HB25 := hidG (HB23.out.trans (HB35.out.mono HB23.out.size))
          have HB15 := hidG (HB13.out.trans (HB35.out.mono HB13.out.size))
          obtain ⟨p5, c5, rfl, -⟩ := own_form hO5
          obtain ⟨b1, hb1⟩ : ∃ b, meetB (cols : Int) F2 V5.length Nn Dd = b := ⟨_, rfl⟩
          have hb2 : meetB (cols : Int) F V5.length Nn Dd = b1 := by rw [← hsame, hb1]
          have HM1 := hidG hb1
          have HM2 := hidG hb2
          clear hL5 hN5 hW5 hO5 hb5 hl5 hP5 hV5 hC5 hsame hb1 hb2
          go_wp2_with fail
          refine (meetsS_spec (cols : Int) _ _ F2 L5 V5 Nn Dd _ (HR2.out.below HB25.out) HTG.out.small HS5.out HSM5.out HV5.out HC5.out (by omega) (by omega)).mono ?_
          rintro e w6 ⟨rfl, hb6⟩
          rw [HM1.out]
          have HB56 := hidG hb6
          have HB16 := hidG (HB15.out.trans (hb6.mono HB15.out.size))
          have HB36 := hidG (HB35.out.trans (hb6.mono HB35.out.size))
          clear hb6
          go_wp2_with fail
          refine (meetsS_spec (cols : Int) _ _ F L5 V5 Nn Dd _ (HR.out.below HB16.out) HSM.out (HS5.out.below HB56.out) HSM5.out HV5.out HC5.out (by omega) (by omega)).mono ?_
          rintro e w7 ⟨rfl, hb7⟩
          rw [HM2.out]
          have HB37 := hidG (HB36.out.trans (hb7.mono HB36.out.size))
          clear hb7
          go_wp2_with fail
          refine ⟨⟨k + 1, by omega, by go_num, HB37.out⟩, by simp [intOf]; omega⟩
        · have z3 : decide ((k : Int) < 12) = false := decide_eq_false (by omega)
          go_wp2_with fail
          go_ret
          exact ⟨rfl, HB3a.out⟩
    · have q3 : ((Wh.length : Int) == (cols : Int)) = false := by rw [beq_eq_false_iff_ne]; omega
      have q4 : ((Wh.length : Int) != (cols : Int)) = true := by rw [bne, q3]; rfl
      have q5 : F.length = 0 := by have := HTG.out.flag; have := HE1.out; omega
      have q6 : ((F.length : Int) == 0) = true := by rw [beq_iff_eq, q5]; rfl
      clear q5 e2
      go_wp2_with fail
      go_ret
      exact ⟨rfl, HB3.out⟩
  · have q1 : ((F2.length : Int) == (F.length : Int)) = false := by rw [beq_eq_false_iff_ne]; omega
    have q2 : ((F2.length : Int) != (F.length : Int)) = true := by rw [bne, q1]; rfl
    have q5 : F2.length = 0 := by have := HTG.out.len; omega
    have q6 : ((F2.length : Int) == 0) = true := by rw [beq_iff_eq, q5]; rfl
    clear q5 e1
    go_wp2_with fail
    go_ret
    exact ⟨rfl, HB3.out⟩
end Go.Proofs.YtknfmkeipeikkaaGreatDoor.L

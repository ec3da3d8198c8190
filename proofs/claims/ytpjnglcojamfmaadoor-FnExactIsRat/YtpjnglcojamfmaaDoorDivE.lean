import Derived.Test.YtpjnglcojamfmaaDoorDivC
import Derived.Test.YtpjnglcojamfmaaDoorPlusGH
import Derived.Laws.AppendOwnNone
import Derived.Deep.QuietTactic
import Derived.BigQuiet
import Derived.WalkSmall
namespace Go.Proofs.YtpjnglcojamfmaaDoor
open Go.ChangeShapes Go.WideShapes Go.ChangeAt Go.RowKit
theorem owns_one (w : World) (base e : Nat) (x : Value) (hb : base ≤ w.heap.size) : (w.alloc (.cells #[x] e)).ownsRow base e 1 (.slice (some ⟨w.heap.size, 0, none⟩) 1 1) 1 [x] := by
  refine ⟨rfl, .inr ⟨w.heap.size, 1, #[x], rfl, hb, ?_, Nat.le_refl _, (by unfold maxLen; omega), rfl, rfl⟩⟩
  exact heap_alloc_new w _
theorem src_cells {W : World} {g off : Nat} {R : List Nat} (h : ∀ i, i < R.length → W.cell? ⟨g, off + i, none⟩ = some (.int .u32 (R.getD i 0 : Nat))) : ∀ j u, (U32s R)[j]? = some u → W.cell? ((⟨g, off, none⟩ : Addr).add j) = some u := by
  intro j v hj
  simp only [U32s, List.getElem?_map, Option.map_eq_some_iff] at hj
  obtain ⟨x, hx, rfl⟩ := hj
  obtain ⟨hlt, hx'⟩ := List.getElem?_eq_some_iff.1 hx
  rw [show (Addr.add ⟨g, off, none⟩ j) = ⟨g, off + j, none⟩ by simp [Addr.add], h j hlt, List.getD_eq_getElem?_getD, hx]; rfl
theorem one_cells (R : List Nat) : ∀ u ∈ U32s R, u.oneCell' = true := by
  intro v hv
  simp only [U32s, List.mem_map] at hv
  obtain ⟨x, _, rfl⟩ := hv
  rfl
theorem IsR.of_owns' {base e n : Nat} {W : World} {v : Value} {R : List Nat} (h : W.ownsRow base e 1 v n (U32s R)) (hok : okL R) : IsR base W v R := by
  have hn : n = R.length := by have := h.1; simp at this; omega
  subst hn
  exact IsR.of_owns h hok
theorem cmpL_nil (b : List Nat) (h : b ≠ []) : cmpL [] b = -1 := by
  unfold cmpL
  have : 0 < b.length := by
    apply Nat.pos_of_ne_zero
    intro e
    exact h (List.eq_nil_of_length_eq_zero e)
  simp [this]
theorem ord_le (x y : Nat) (h : x ≤ y) : ord x y ≤ 0 := by
  unfold ord
  split
  · omega
  · first | omega | (split <;> omega)
theorem ord_gt (x y : Nat) (h : y < x) : 0 < ord x y := by
  unfold ord
  split
  · omega
  · first | omega | (split <;> omega)
theorem len_of_le (u b : List Nat) (hu : isTrim u) (hb : okL b) (h : val u ≤ val b) : u.length ≤ b.length := by
  by_cases hne : u = []
  · rw [hne]; exact Nat.zero_le _
  · have h1 := val_ge u hu hne
    have h2 := val_lt b hb
    apply Nat.le_of_not_lt
    intro hlt
    have h3 : 1000000000 ^ b.length ≤ 1000000000 ^ (u.length - 1) := Nat.pow_le_pow_right (by decide) (by omega)
    omega
theorem wpList_append_R {P : Program} {w : World} {ops : Array Oper} {rest : List Oper} {o : Oper} {a : Act} {Q : Exit → Act → World → Prop} (hgd : o.guard = none) (s x : Operand) (t : TypeId)
    (ho : o.op = .call { callee := .builtin .append, args := #[s, x], argTypes := #[t, t] })
    (base b2 : Nat) (e : TypeId) (i : TypeInfo) (z : Value) (bytes : Nat) (ht : P.underlying t = some (.slice e)) (hi : P.info? e = some i) (hz : i.zero = some z)
    (hsize : i.size = 1) (hby : i.bytes = bytes) (hzs : z.cells.size = 1)
    (v : Value) (n : Nat) (xs : List Value) (hs : a.eval s = v) (hown : w.ownsRow base e 1 v n xs)
    (rv : Value) (R : List Nat) (hx : a.eval x = rv) (hR : IsR b2 w rv R)
    (h63 : n + R.length ≤ maxLen) (hbytes : (n + R.length) * bytes ≤ 140737488355328) (hbase : base ≤ w.heap.size)
    (h : ∀ v' w', w'.ownsRow base e 1 v' (n + R.length) (xs ++ U32s R) → w.grownBy w' v.ownBlock → wpList P ops Q rest (a.put o.dst v') w') : wpList P ops Q (o :: rest) a w := by
  obtain ⟨_, ⟨rfl, rfl⟩ | ⟨g, cap, rfl, _, _, _, _, hc⟩⟩ := hR
  · exact wpList_append_own_none hgd s x t ho base e i 1 ht hi v n xs hs hown hx (h v w (by simpa [U32s] using hown) ⟨rfl, rfl, rfl, Nat.le_refl _, fun _ _ _ => rfl⟩)
  · exact wpList_append_own w hgd s x t ho base e i z 1 bytes ht hi hz hsize hby hzs (by omega) v n xs hs hown ⟨g, 0, none⟩ R.length cap (U32s R) hx (by simp) (src_cells (fun i hi => by rw [Nat.zero_add]; exact hc i hi)) (one_cells R) h63 hbytes hbase (fun v' w' h1 h2 _ => h v' w' h1 h2)
set_option maxRecDepth 100000 in
set_option maxHeartbeats 8000000 in
theorem l1DivD_some (B ba oa ca : Nat) (vb : Value) (a b : List Nat) (w : World) (hBw : B ≤ w.heap.size) (hla : a.length ≤ 100000) (ha : IsL B w (.slice (some ⟨ba, oa, none⟩) a.length ca) a) (hane : a ≠ []) (hb : IsL B w vb b) (hlb : b.length ≤ 100000) (htb : isTrim b) (hne : b ≠ []) :
    Calls Tryd.prog 36 #[.slice (some ⟨ba, oa, none⟩) a.length ca, vb] w fun e w' => ∃ v u Q U, e = .returned (.tuple #[v, u]) ∧ (IsL w.heap.size w' v Q ∧ IsL w.heap.size w' u U) ∧ val a = val Q * val b + val U ∧ val U < val b ∧ Below w.heap.size w w' := by
  obtain ⟨i0, hinf, hz0, hz1, hz2⟩ := info_parts Tryd.info_u32
  have HB : Hid (∀ W, Below w.heap.size w W → IsL B W vb b) := fun W hW => hb.below hW
  obtain ⟨pb, cb, rfl, _, _, hbok, _⟩ := hb
  obtain ⟨_, hac, ham, haok, hca⟩ := ha.cells
  have hap : 0 < a.length := by
    apply Nat.pos_of_ne_zero
    intro e
    exact hane (List.eq_nil_of_length_eq_zero e)
  have hbp : 0 < b.length := by
    apply Nat.pos_of_ne_zero
    intro e
    exact hne (List.eq_nil_of_length_eq_zero e)
  have hba : ba < w.heap.size := by
    obtain ⟨b', off', e, hlt, _⟩ := hca 0 hap
    simp only [Option.some.injEq, Addr.mk.injEq, and_true] at e
    omega
  have HA : Hid (∀ i, i < a.length → w.cell? ⟨ba, oa + i, none⟩ = some (.int .u32 (a.getD i 0 : Nat))) := fun i hi => by
    obtain ⟨b', off', e, _, hc⟩ := hca i hi
    simp only [Option.some.injEq, Addr.mk.injEq, and_true] at e
    obtain ⟨rfl, rfl⟩ := e
    exact hc
  have HST : Hid (SD a b (a.drop (a.length + 1 - b.length)) (List.replicate a.length 0) (a.length + 1 - b.length)) := sd_first a b haok htb hne
  obtain ⟨T, hT⟩ : ∃ T, a.length + 1 - b.length = T := ⟨_, rfl⟩
  rw [hT] at HST
  have hTl : T ≤ a.length := by omega
  have HT : Hid (T = a.length + 1 - b.length) := hT.symm
  unfold maxLen at ham
  have HOK : Hid (okL a ∧ okL b ∧ isTrim b ∧ b ≠ []) := ⟨haok, hbok, htb, hne⟩
  clear ha hca hane htb hne
  have HTC : Hid (T = 0 ∨ T ≤ ca) := .inr (by omega)
  have HCS : Hid (T = a.length + 1 - b.length ∧ T ≤ a.length) := ⟨HT.out, hTl⟩
  have hcase : ((a.length : Int) - (b.length : Int) + 1 < 0 ∧ T = 0) ∨ ((a.length : Int) - (b.length : Int) + 1 = (T : Int) ∧ T < ca) ∨ ((a.length : Int) - (b.length : Int) + 1 = (T : Int) ∧ ca = T ∧ a.length = T) := by omega
  have HBB : Hid (B ≤ w.heap.size + 1) := by show B ≤ w.heap.size + 1; omega
  have HBW : Hid (B ≤ w.heap.size) := hBw
  have HSRC : Hid (∀ W, Below w.heap.size w W → ∀ i, i < (a.drop T).length → W.cell? ⟨ba, oa + T + i, none⟩ = some (.int .u32 ((a.drop T).getD i 0 : Nat))) := fun W hW i hi => by
    rw [hW.cell (p := ⟨ba, oa + T + i, none⟩) hba, Nat.add_assoc, HA.out (T + i) (by simp at hi; omega), drop_getD]
  clear hT HT hTl
  rcases hcase with ⟨hc1, hc2⟩ | ⟨hc1, hc2⟩ | ⟨hc1, hc2, hc3⟩
  · have HE : Hid (T = 0) := hc2
    have z1 : decide ((a.length : Int) - (b.length : Int) + 1 < 0) = true := by rw [decide_eq_true_iff]; omega
    clear hc2
    go_enter Tryd.func36, Tryd.ntmps36
    go_wp2_with (at_make; refine wpList_make_full _ rfl _ _ 26 rfl w.heap.size 51 i0 (.int .u32 0) 1 Tryd.underlying26 hinf hz0 hz1 .i64 .i64 _ _ a.length rfl rfl (by first | rfl | omega) (by first | rfl | omega) (by first | omega | (rw [hz2]; omega)) (by unfold maxLen; omega) (Nat.le_refl _) ?_)
    intro w1 hown hgr
    first | rw [made_zero] at hown | rw [made_zero'] at hown
    have hQ1 : RowT w1 w.heap.size (List.replicate a.length 0) := (row_of_full hown).tail
    have hB1 : Below w.heap.size w w1 := (Below.refl _ _).grown hgr (Nat.le_refl _) (fun k h => by cases h)
    have HQ1 : Hid (RowT w1 w.heap.size (List.replicate a.length 0)) := hQ1
    have HB1 : Hid (Below w.heap.size w w1) := hB1
    have HLT1 : Hid (w.heap.size < w1.heap.size) := hQ1.lt
    clear hown hgr hQ1 hB1
    go_wp2_with (at_builtin; refine wpList_append_own _ rfl _ _ 26 rfl (w.heap.size + 1) 51 i0 (.int .u32 0) 1 4 Tryd.underlying26 hinf hz0 hz1 hz2 rfl (by decide) _ 0 [] rfl (World.ownsRow_nil _ _ _ _) ⟨ba, oa, none⟩ a.length ca (U32s (a.drop T)) rfl (by rw [HE.out]; simp) (by have h := src_cells (HSRC.out _ HB1.out); rw [HE.out] at h ⊢; exact h) (one_cells _) (by unfold maxLen; omega) (by omega) (by have := HLT1.out; omega) ?_)
    intro v2 w2 hown2 hgr2 _
    try rw [← List.map_drop] at hown2
    have hown3 := hown2
    have hB2 : Below w.heap.size w w2 := HB1.out.grown hgr2 HB1.out.size (fun k h => by cases h)
    have HIR : Hid (IsR (w.heap.size + 1) w2 v2 (a.drop T)) := IsR.of_owns' (e := 51) (R := a.drop T) hown3 HST.out.rok
    have HQ2 : Hid (RowT w2 w.heap.size (List.replicate a.length 0)) := by
      obtain ⟨tl, h⟩ := HQ1.out
      exact ⟨tl, (hgr2.block _ HLT1.out (by simp [Value.ownBlock])).trans h⟩
    have HB2 : Hid (Below w.heap.size w w2) := hB2
    obtain ⟨pr, lr, cr, hv2⟩ : ∃ pr lr cr, v2 = .slice pr lr cr := by
      obtain ⟨_, _, e, _⟩ := HIR.out.isL
      exact ⟨_, _, _, e⟩
    subst hv2
    clear hown2 hown3 hgr2 hB2
    go_wp2
    go_loopw [7, 9] (fun rv iv wr => ∃ (j : Nat) (R Q : List Nat), SD a b R Q j ∧ IsR (w.heap.size + 1) wr rv R ∧ iv = .int .i64 ((j : Int) - 1) ∧ RowT wr w.heap.size Q ∧ Below w.heap.size w wr) (fun _ iv _ => (intOf iv + 1).toNat)
    case atStart => exact ⟨T, _, _, HST.out, HIR.out, val_int (by have := HE.out; omega), HQ2.out, HB2.out⟩
    case round =>
      obtain ⟨j, R, Q, hsd, hir, rfl, hQ, hB⟩ := hrel
      have HSD : Hid (SD a b R Q j) := hsd
      have HIRR : Hid (IsR (w.heap.size + 1) wr u7 R) := hir
      have HQR : Hid (RowT wr w.heap.size Q) := hQ
      have HBR : Hid (Below w.heap.size w wr) := hB
      have hja := hsd.le
      clear hsd hir hQ hB
      cases j with
      | zero =>
        have HE : Hid (val a = val Q * val b + val R ∧ val R < val b) := by
          have e := HSD.out.eq
          unfold vfrom at e
          rw [List.drop_zero, List.drop_zero] at e
          exact ⟨e, HSD.out.lt⟩
        have HQL : Hid (IsL w.heap.size wr (.slice (some ⟨w.heap.size, 0, none⟩) a.length a.length) Q) := by
          have h := HQR.out.isL (B := w.heap.size) (cap := a.length) (Nat.le_refl _) HSD.out.qok (by have := HSD.out.qlen; omega) (by unfold maxLen; omega)
          rw [HSD.out.qlen] at h
          exact h
        go_wp2
        go_ret2
        exact ⟨_, _, Q, R, rfl, ⟨HQL.out, HIRR.out.isL.mono (by omega)⟩, HE.out.1, HE.out.2, HBR.out⟩
      | succ i =>
        have hca := HA.out i (by omega)
        rw [← HBR.out.cell (p := ⟨ba, oa + i, none⟩) hba] at hca
        have hxb := okL_getD a HOK.out.1 i (by omega)
        have HCONT : Hid (val (trimL (a.getD i 0 :: R)) < val b → SD a b (trimL (a.getD i 0 :: R)) Q i) := fun h => HSD.out.cont h hxb HOK.out.2.1
        have HPT : Hid (∀ {q : Nat} {R' : List Nat}, q < 1000000000 → val (a.getD i 0 :: R) = q * val b + val R' → val R' < val b → okL R' → isTrim R' → SD a b R' (Q.set i q) i) := fun {q R'} h1 h2 h3 h4 h5 => HSD.out.put h1 h2 h3 h4 h5 HOK.out.2.1
        have HWN : Hid (val (a.getD i 0 :: R) < val b * 1000000000) := HSD.out.window hxb
        obtain ⟨x, hx⟩ : ∃ x, a.getD i 0 = x := ⟨_, rfl⟩
        rw [hx] at hca hxb HCONT HPT HWN
        obtain ⟨N, hN⟩ : ∃ N, x :: R = N := ⟨_, rfl⟩
        have hNok : okL N := by
          rw [← hN]
          intro y hy
          rcases List.mem_cons.1 hy with e | e
          · omega
          · exact HSD.out.rok y e
        have hRl := HSD.out.rlen
        have HNL : Hid (N.length = R.length + 1 ∧ N.length ≤ 100001) := by
          rw [← hN]
          exact ⟨by simp, by simp; omega⟩
        rw [hN] at HCONT HPT HWN
        have HN : Hid (okL N ∧ True ∧ val N < val b * 1000000000) := ⟨hNok, trivial, HWN.out⟩
        have HNE : Hid (U32s N = Value.int .u32 (x : Nat) :: U32s R) := by rw [← hN]; rfl
        have HLTR : Hid (w.heap.size < wr.heap.size) := HQR.out.lt
        clear hx hN hNok HWN
        go_wp2_with (at_builtin; refine wpList_append_R rfl _ _ 26 rfl (w.heap.size + 1) (w.heap.size + 1) 51 i0 (.int .u32 0) 4 Tryd.underlying26 hinf hz0 hz1 hz2 rfl _ 1 [.int .u32 (x : Nat)] rfl (owns_one wr _ _ _ (by have := HLTR.out; omega)) _ R rfl (HIRR.out.below (below_alloc _ _)) (by unfold maxLen; omega) (by omega) (by have := HLTR.out; simp; omega) ?_)
        intro v3 w3 hown3 hgr3
        rw [← HNE.out] at hown3
        have hB3 : Below w.heap.size w w3 := (HBR.out.alloc HBR.out.size _).grown hgr3 (by have := HBR.out.size; simp; omega) (fun k h => by simp [Value.ownBlock] at h; have := HLTR.out; omega)
        have HQ3 : Hid (RowT w3 w.heap.size Q) := by
          obtain ⟨tl, h⟩ := HQR.out
          refine ⟨tl, (hgr3.block _ (by have := HLTR.out; simp; omega) (by simp [Value.ownBlock]; have := HLTR.out; omega)).trans ?_⟩
          exact (heap_alloc_old wr _ HLTR.out).trans h
        have HB3 : Hid (Below w.heap.size w w3) := hB3
        obtain ⟨_, ⟨_, hnil⟩ | ⟨g, cap, hv3, hg1, hg2, hg3, hg4, hg5⟩⟩ := IsR.of_owns' (e := 51) hown3 HN.out.1
        · exfalso; have := HNL.out.1; rw [hnil] at this; simp at this
        subst hv3
        have HC3 : Hid (∀ q, q < N.length → w3.cell? ⟨g, q, none⟩ = some (.int .u32 (N.getD q 0 : Nat))) := hg5
        have HCUT : Hid (∀ k, k ≤ N.length → trimL N = N.take k → IsR (w.heap.size + 1) w3 (.slice (some ⟨g, 0, none⟩) k cap) (trimL N)) := fun k hk he => IsR.cut hg1 hg2 hg4 HN.out.1 hg3 hg5 k hk he
        have hNl := HNL.out.2
        unfold maxLen at hg4
        clear hown3 hgr3 hB3 hg5 hca
        go_wp2
        go_loop [11] (fun n => ∃ k : Nat, k ≤ N.length ∧ n = .int .i64 k ∧ trimL (N.take k) = trimL N) (fun n => (intOf n).toNat)
        case atStart => exact ⟨N.length, Nat.le_refl _, rfl, by rw [List.take_length]⟩
        case round =>
          obtain ⟨k, hk, rfl, hp⟩ := hrel
          have HP : Hid (trimL (N.take k) = trimL N) := hp
          clear hp
          cases k with
          | zero =>
            have HE : Hid (trimL N = []) := by rw [← HP.out]; rfl
            have HRR : Hid (IsR (w.heap.size + 1) w3 (.slice (some ⟨g, 0, none⟩) 0 cap) (trimL N)) := HCUT.out 0 (by omega) (by rw [← HP.out]; rfl)
            have HRL : Hid (IsL B w3 (.slice (some ⟨g, 0, none⟩) 0 cap) (trimL N)) := HRR.out.isL.mono HBB.out
            have HCM : Hid (cmpL (trimL N) b = -1) := by rw [HE.out]; exact cmpL_nil b HOK.out.2.2.2
            have HSD2 : Hid (SD a b (trimL N) Q i) := HCONT.out (by rw [HE.out]; exact val_pos b HOK.out.2.2.1 HOK.out.2.2.2)
            go_wp2_with fail
            refine (l1CmpD_any B _ _ (trimL N) b _ HRL.out (HB.out _ HB3.out)).mono ?_
            rintro e w4 ⟨rfl, hb4⟩
            rw [HCM.out]
            have HW4 : Hid (IsR (w.heap.size + 1) w4 (.slice (some ⟨g, 0, none⟩) 0 cap) (trimL N) ∧ RowT w4 w.heap.size Q ∧ Below w.heap.size w w4) := ⟨HRR.out.below hb4, HQ3.out.kept hb4, HB3.out.trans (hb4.mono HB3.out.size)⟩
            clear hb4
            go_wp2
            go_roundw
            case rel => exact ⟨i, trimL N, Q, HSD2.out, HW4.out.1, by go_num, HW4.out.2.1, HW4.out.2.2⟩
            case measure => simp [intOf]
          | succ m =>
            obtain ⟨y, hy⟩ : ∃ y, N.getD m 0 = y := ⟨_, rfl⟩
            have hcell := HC3.out m (by omega)
            rw [hy] at hcell
            have HY : Hid (N.getD m 0 = y) := hy
            clear hy
            by_cases h0 : y = 0
            · have hz : ((y : Int) == 0) = true := by rw [beq_iff_eq]; omega
              have HE : Hid (trimL (N.take m) = trimL N) := by rw [← trimL_take_zero N m (by omega) (by rw [HY.out, h0])]; exact HP.out
              clear h0
              go_wp2
              go_round
              case rel => exact ⟨m, by omega, val_int (by omega), HE.out⟩
              case measure => simp [intOf]
            · have hz : ((y : Int) == 0) = false := by rw [beq_eq_false_iff_ne]; omega
              have HRR : Hid (IsR (w.heap.size + 1) w3 (.slice (some ⟨g, 0, none⟩) (m + 1) cap) (trimL N)) := HCUT.out (m + 1) hk (HP.out.symm.trans (trimL_take_pos N m (by omega) (by rw [HY.out]; exact h0)))
              have HRL : Hid (IsL B w3 (.slice (some ⟨g, 0, none⟩) (m + 1) cap) (trimL N)) := HRR.out.isL.mono HBB.out
              have HRLEN : Hid ((trimL N).length = m + 1) := by obtain ⟨_, _, e, _⟩ := HRL.out; simp at e; exact e.2.1.symm
              clear h0
              obtain ⟨cm, hcm⟩ : ∃ cm, cmpL (trimL N) b = cm := ⟨_, rfl⟩
              have HCM : Hid (cmpL (trimL N) b = cm) := hcm
              have hcb : -1 ≤ cm ∧ cm ≤ 1 := by rw [← hcm]; exact cmpL_bd _ b
              obtain ⟨hcb1, hcb2⟩ := hcb
              clear hcm
              go_wp2_with fail
              refine (l1CmpD_any B _ _ (trimL N) b _ HRL.out (HB.out _ HB3.out)).mono ?_
              rintro e w4 ⟨rfl, hb4⟩
              rw [HCM.out]
              have HW4 : Hid (IsR (w.heap.size + 1) w4 (.slice (some ⟨g, 0, none⟩) (m + 1) cap) (trimL N) ∧ RowT w4 w.heap.size Q ∧ Below w.heap.size w w4) := ⟨HRR.out.below hb4, HQ3.out.kept hb4, HB3.out.trans (hb4.mono HB3.out.size)⟩
              clear hb4 hcell
              by_cases hlt : cm < 0
              · have HSD2 : Hid (SD a b (trimL N) Q i) := HCONT.out (cmpL_lt_val _ b (trimL_ok N HN.out.1) HOK.out.2.1 (trimL_trim N) HOK.out.2.2.1 (by rw [HCM.out]; exact hlt))
                go_wp2
                go_roundw
                case rel => exact ⟨i, trimL N, Q, HSD2.out, HW4.out.1, by go_num, HW4.out.2.1, HW4.out.2.2⟩
                case measure => simp [intOf]
              · have HGE : Hid (val b ≤ val N ∧ b.length ≤ (trimL N).length) := by
                  have h := cmpL_ge (trimL N) b (trimL_ok N HN.out.1) HOK.out.2.1 (trimL_trim N) HOK.out.2.2.1 (by rw [HCM.out]; omega)
                  rw [val_trimL] at h
                  exact ⟨h.2, h.1⟩
                have hnl : 0 ≤ cm := by omega
                clear hlt
                go_wp2
                go_loopw [12, 13] (fun lov hiv wq => ∃ lo hi : Nat, lov = .int .u64 (lo : Nat) ∧ hiv = .int .u64 (hi : Nat) ∧ Between (val b) (val N) lo hi ∧ Below w4.heap.size w4 wq) (fun lov hiv _ => (intOf hiv).toNat - (intOf lov).toNat)
                case atStart => exact ⟨0, 999999999, rfl, rfl, between_first _ _ HN.out.2.2, Below.refl _ _⟩
                case round =>
                  obtain ⟨lo, hi, rfl, rfl, hbt, hbq⟩ := hrel
                  have HBT : Hid (Between (val b) (val N) lo hi) := hbt
                  have HBQ : Hid (Below w4.heap.size w4 wr) := hbq
                  have hl1 := hbt.1
                  have hl2 := hbt.2.1
                  clear hbt hbq
                  have HFQ : Hid (Below w.heap.size w wr) := HW4.out.2.2.trans (HBQ.out.mono HW4.out.2.2.size)
                  have HRQ : Hid (IsR (w.heap.size + 1) wr (.slice (some ⟨g, 0, none⟩) (m + 1) cap) (trimL N)) := HW4.out.1.below HBQ.out
                  have HQQ : Hid (RowT wr w.heap.size Q) := HW4.out.2.1.kept HBQ.out
                  by_cases hlh : lo < hi
                  · obtain ⟨M, hM⟩ : ∃ M, (lo + hi + 1) / 2 = M := ⟨_, rfl⟩
                    have hMI : ((lo : Int) + (hi : Int) + 1) / 2 = (M : Int) := by omega
                    have HM : Hid ((lo + hi + 1) / 2 = M) := hM
                    have hM2 : M < 1000000000 := by omega
                    have hM1 : 1 ≤ M := by omega
                    clear hM
                    go_wp2_with fail
                    refine (l1MulD_any B _ b M _ (HB.out _ HFQ.out) hlb hM2).mono ?_
                    rintro e w5 ⟨v5, L5, rfl, hL5, ht5, hv5, hl5, hb5⟩
                    have HL5 : Hid (IsL B w5 v5 L5) := hL5.mono (by have := HFQ.out.size; have := HBW.out; omega)
                    have HV5 : Hid (isTrim L5 ∧ val L5 = val b * M ∧ okL L5) := ⟨ht5, hv5, by obtain ⟨_, _, _, _, _, h, _⟩ := hL5; exact h⟩
                    have HB5 : Hid (Below wr.heap.size wr w5) := hb5
                    obtain ⟨p5, c5, e5, _⟩ := id hL5
                    subst e5
                    clear hL5 ht5 hv5 hl5 hb5
                    go_wp2_with fail
                    refine (l1CmpD_any B _ _ L5 (trimL N) _ HL5.out ((HRQ.out.below HB5.out).isL.mono HBB.out)).mono ?_
                    rintro e w6 ⟨rfl, hb6⟩
                    have HB6 : Hid (Below w4.heap.size w4 w6) := HBQ.out.trans ((HB5.out.trans (hb6.mono HB5.out.size)).mono HBQ.out.size)
                    clear hb6
                    have ho := cmpL_ord L5 (trimL N) HV5.out.2.2 (trimL_ok N HN.out.1) HV5.out.1 (trimL_trim N)
                    rw [val_trimL, HV5.out.2.1] at ho
                    by_cases hc : M * val b ≤ val N
                    · have HUP : Hid (Between (val b) (val N) M hi) := by
                        have h := between_up HBT.out hlh (by rw [HM.out]; exact hc)
                        rw [HM.out] at h
                        exact h
                      obtain ⟨cx, hcx⟩ : ∃ cx, cmpL L5 (trimL N) = cx := ⟨_, rfl⟩
                      have hcx2 : cx ≤ 0 := by rw [← hcx, ho]; exact ord_le _ _ (by rw [Nat.mul_comm]; exact hc)
                      rw [hcx]
                      clear hcx ho hc
                      go_wp2
                      go_roundw
                      case rel => exact ⟨M, hi, rfl, rfl, HUP.out, HB6.out⟩
                      case measure => simp [intOf]; have := HM.out; omega
                    · have HDN : Hid (Between (val b) (val N) lo (M - 1)) := by
                        have h := between_down HBT.out hlh (by rw [HM.out]; omega)
                        rw [HM.out] at h
                        exact h
                      obtain ⟨cx, hcx⟩ : ∃ cx, cmpL L5 (trimL N) = cx := ⟨_, rfl⟩
                      have hcx2 : 0 < cx := by rw [← hcx, ho]; exact ord_gt _ _ (by rw [Nat.mul_comm]; omega)
                      rw [hcx]
                      clear hcx ho hc
                      go_wp2
                      go_roundw
                      case rel => exact ⟨lo, M - 1, rfl, val_int (by omega), HDN.out, HB6.out⟩
                      case measure => simp [intOf]; have := HM.out; omega
                  · obtain rfl : lo = hi := by omega
                    have HLO : Hid (1 ≤ lo ∧ lo * val b ≤ val N ∧ val N < (lo + 1) * val b) := by
                      refine ⟨?_, HBT.out.2.2.1, HBT.out.2.2.2⟩
                      apply Nat.pos_of_ne_zero
                      rintro rfl
                      have h1 := HBT.out.2.2.2
                      have h2 := HGE.out.1
                      omega
                    have hlo1 := HLO.out.1
                    have hqc := HQQ.out.cell i (by have := HSD.out.qlen; have := HSD.out.le; omega)
                    have hqf := HQQ.out.frozen i
                    have HW5 : Hid (RowT (wr.setCell ⟨w.heap.size, i, none⟩ (.int .u32 (lo : Nat))) w.heap.size (Q.set i lo) ∧ IsR (w.heap.size + 1) (wr.setCell ⟨w.heap.size, i, none⟩ (.int .u32 (lo : Nat))) (.slice (some ⟨g, 0, none⟩) (m + 1) cap) (trimL N) ∧ Below w.heap.size w (wr.setCell ⟨w.heap.size, i, none⟩ (.int .u32 (lo : Nat)))) :=
                      ⟨HQQ.out.set _ _ (by have := HSD.out.qlen; have := HSD.out.le; omega), HRQ.out.setCell _ _ (by show w.heap.size < w.heap.size + 1; omega), HFQ.out.setCell (Nat.le_refl _) _⟩
                    obtain ⟨W5, hW5⟩ : ∃ W5, wr.setCell ⟨w.heap.size, i, none⟩ (.int .u32 (lo : Nat)) = W5 := ⟨_, rfl⟩
                    have HWW : Hid (wr.setCell ⟨w.heap.size, i, none⟩ (.int .u32 (lo : Nat)) = W5) := hW5
                    rw [hW5] at HW5
                    clear hW5 hlh
                    go_wp2_with fail
                    rw [HWW.out]
                    clear hqc hqf
                    refine (l1MulD_any B _ b lo _ (HB.out _ HW5.out.2.2) hlb (by omega)).mono ?_
                    rintro e w6 ⟨v6, L6, rfl, hL6, ht6, hv6, hl6, hb6⟩
                    have HL6 : Hid (IsL B w6 v6 L6 ∧ isTrim L6 ∧ val L6 = val b * lo ∧ okL L6) := ⟨hL6.mono (by have := HW5.out.2.2.size; have := HBW.out; omega), ht6, hv6, by obtain ⟨_, _, _, _, _, h, _⟩ := hL6; exact h⟩
                    have HB6 : Hid (Below W5.heap.size W5 w6) := hb6
                    obtain ⟨p6, c6, e6, _⟩ := id hL6
                    subst e6
                    clear hL6 ht6 hv6 hl6 hb6
                    go_wp2_with fail
                    have hle6 : val L6 ≤ val (trimL N) := by rw [HL6.out.2.2.1, val_trimL, Nat.mul_comm]; exact HLO.out.2.1
                    have hsub := l1SubD_len B (.slice (some ⟨g, 0, none⟩) (m + 1) cap) (.slice p6 L6.length c6) (trimL N) L6 w6 ((HW5.out.2.1.below HB6.out).isL.mono HBB.out) HL6.out.1 (by have := HNL.out; have := trimL_len N; omega) (len_of_le L6 (trimL N) HL6.out.2.1 (trimL_ok N HN.out.1) hle6) hle6
                    rw [HRLEN.out] at hsub
                    refine hsub.mono ?_
                    clear hsub hle6
                    rintro e w7 ⟨S, rfl, hS, hvS, hlS, hb7⟩
                    have hSok : okL S := by obtain ⟨_, _, _, _, _, h, _⟩ := hS; exact h
                    have HS : Hid (okL S ∧ S.length = m + 1 ∧ val S + lo * val b = val N) := ⟨hSok, hlS, by rw [HL6.out.2.2.1, val_trimL] at hvS; rw [Nat.mul_comm lo]; exact hvS⟩
                    have hG : w.heap.size + 1 ≤ w6.heap.size := by have := HW5.out.1.lt; have := HB6.out.size; omega
                    have HC7 : Hid (∀ q, q < S.length → w7.cell? ⟨w6.heap.size, q, none⟩ = some (.int .u32 (S.getD q 0 : Nat))) := fun q hq => by
                      obtain ⟨_, _, _, _, hcs⟩ := hS.cells
                      obtain ⟨b', off', e, _, hc⟩ := hcs q hq
                      simp only [Option.some.injEq, Addr.mk.injEq, and_true] at e
                      obtain ⟨rfl, rfl⟩ := e
                      rw [Nat.zero_add] at hc
                      exact hc
                    have HLT7 : Hid (w6.heap.size < w7.heap.size) := by
                      obtain ⟨_, _, _, _, hcs⟩ := hS.cells
                      obtain ⟨b', off', e, hlt, hc⟩ := hcs 0 (by omega)
                      simp only [Option.some.injEq, Addr.mk.injEq, and_true] at e
                      obtain ⟨rfl, rfl⟩ := e
                      exact hlt
                    have HW7 : Hid (RowT w7 w.heap.size (Q.set i lo) ∧ Below w.heap.size w w7) := ⟨(HW5.out.1.kept HB6.out).kept hb7, HW5.out.2.2.trans ((HB6.out.trans (hb7.mono HB6.out.size)).mono HW5.out.2.2.size)⟩
                    have HCUT7 : Hid (∀ k, k ≤ S.length → trimL S = S.take k → IsR (w.heap.size + 1) w7 (.slice (some ⟨w6.heap.size, 0, none⟩) k (m + 1)) (trimL S)) := fun k hk he => IsR.cut hG HLT7.out (by unfold maxLen; have := HNL.out; have := trimL_len N; have := HRLEN.out; omega) hSok (by omega) HC7.out k hk he
                    have HPUT : Hid (SD a b (trimL S) (Q.set i lo) i) := by
                      refine HPT.out (by omega) ?_ ?_ (trimL_ok S hSok) (trimL_trim S)
                      · rw [val_trimL]; have := HS.out.2.2; omega
                      · rw [val_trimL]
                        have h1 := HS.out.2.2
                        have h2 := HLO.out.2.2
                        rw [Nat.add_mul, Nat.one_mul] at h2
                        omega
                    clear hS hvS hlS hb7 hSok hG
                    go_wp2
                    go_loop [16] (fun n => ∃ k : Nat, k ≤ S.length ∧ n = .int .i64 k ∧ trimL (S.take k) = trimL S) (fun n => (intOf n).toNat)
                    case atStart => exact ⟨S.length, Nat.le_refl _, val_int (by have := HS.out.2.1; omega), by rw [List.take_length]⟩
                    case round =>
                      obtain ⟨k, hk, rfl, hp⟩ := hrel
                      have HP2 : Hid (trimL (S.take k) = trimL S) := hp
                      have hSl := HS.out.2.1
                      clear hp
                      cases k with
                      | zero =>
                        have HRR2 : Hid (IsR (w.heap.size + 1) w7 (.slice (some ⟨w6.heap.size, 0, none⟩) 0 (m + 1)) (trimL S)) := HCUT7.out 0 (by omega) (by rw [← HP2.out]; rfl)
                        clear hSl
                        go_wp2
                        go_roundw
                        case rel => exact ⟨i, trimL S, Q.set i lo, HPUT.out, HRR2.out, by go_num, HW7.out.1, HW7.out.2⟩
                        case measure => simp [intOf]
                      | succ p =>
                        obtain ⟨y, hy⟩ : ∃ y, S.getD p 0 = y := ⟨_, rfl⟩
                        have hcell := HC7.out p (by omega)
                        rw [hy] at hcell
                        have HY2 : Hid (S.getD p 0 = y) := hy
                        have hpm : p < m + 1 := by omega
                        clear hy
                        by_cases h0 : y = 0
                        · have hz : ((y : Int) == 0) = true := by rw [beq_iff_eq]; omega
                          have HE2 : Hid (trimL (S.take p) = trimL S) := by rw [← trimL_take_zero S p (by omega) (by rw [HY2.out, h0])]; exact HP2.out
                          clear h0 hSl
                          go_wp2
                          go_round
                          case rel => exact ⟨p, by have := HS.out.2.1; omega, val_int (by omega), HE2.out⟩
                          case measure => simp [intOf]
                        · have hz : ((y : Int) == 0) = false := by rw [beq_eq_false_iff_ne]; omega
                          have HRR2 : Hid (IsR (w.heap.size + 1) w7 (.slice (some ⟨w6.heap.size, 0, none⟩) (p + 1) (m + 1)) (trimL S)) := HCUT7.out (p + 1) (by omega) (HP2.out.symm.trans (trimL_take_pos S p (by omega) (by rw [HY2.out]; exact h0)))
                          clear h0 hSl
                          go_wp2
                          go_roundw
                          case rel => exact ⟨i, trimL S, Q.set i lo, HPUT.out, HRR2.out, by go_num, HW7.out.1, HW7.out.2⟩
                          case measure => simp [intOf]
  · have z1 : decide ((T : Int) < 0) = false := by rw [decide_eq_false_iff_not]; omega
    have HCT := HCS.out.2
    have z2 : decide (a.length < T) = false := by rw [decide_eq_false_iff_not]; omega
    have z3 : decide ((a.length : Int) < (T : Int)) = false := by rw [decide_eq_false_iff_not]; omega
    clear HCT
    go_enter Tryd.func36, Tryd.ntmps36
    go_wp2_with (at_make; refine wpList_make_full _ rfl _ _ 26 rfl w.heap.size 51 i0 (.int .u32 0) 1 Tryd.underlying26 hinf hz0 hz1 .i64 .i64 _ _ a.length rfl rfl (by first | rfl | omega) (by first | rfl | omega) (by first | omega | (rw [hz2]; omega)) (by unfold maxLen; omega) (Nat.le_refl _) ?_)
    intro w1 hown hgr
    first | rw [made_zero] at hown | rw [made_zero'] at hown
    have hQ1 : RowT w1 w.heap.size (List.replicate a.length 0) := (row_of_full hown).tail
    have hB1 : Below w.heap.size w w1 := (Below.refl _ _).grown hgr (Nat.le_refl _) (fun k h => by cases h)
    have HQ1 : Hid (RowT w1 w.heap.size (List.replicate a.length 0)) := hQ1
    have HB1 : Hid (Below w.heap.size w w1) := hB1
    have HLT1 : Hid (w.heap.size < w1.heap.size) := hQ1.lt
    clear hown hgr hQ1 hB1
    have hTl := HCS.out.2
    go_wp2_with (at_builtin; refine wpList_append_own _ rfl _ _ 26 rfl (w.heap.size + 1) 51 i0 (.int .u32 0) 1 4 Tryd.underlying26 hinf hz0 hz1 hz2 rfl (by decide) _ 0 [] rfl (World.ownsRow_nil _ _ _ _) ⟨ba, oa + T, none⟩ (a.length - T) (ca - T) (U32s (a.drop T)) rfl (by simp) (src_cells (HSRC.out _ HB1.out)) (one_cells _) (by unfold maxLen; omega) (by omega) (by have := HLT1.out; omega) ?_)
    intro v2 w2 hown2 hgr2 _
    try rw [← List.map_drop] at hown2
    have hown3 := hown2
    have hB2 : Below w.heap.size w w2 := HB1.out.grown hgr2 HB1.out.size (fun k h => by cases h)
    have HIR : Hid (IsR (w.heap.size + 1) w2 v2 (a.drop T)) := IsR.of_owns' (e := 51) (R := a.drop T) hown3 HST.out.rok
    have HQ2 : Hid (RowT w2 w.heap.size (List.replicate a.length 0)) := by
      obtain ⟨tl, h⟩ := HQ1.out
      exact ⟨tl, (hgr2.block _ HLT1.out (by simp [Value.ownBlock])).trans h⟩
    have HB2 : Hid (Below w.heap.size w w2) := hB2
    obtain ⟨pr, lr, cr, hv2⟩ : ∃ pr lr cr, v2 = .slice pr lr cr := by
      obtain ⟨_, _, e, _⟩ := HIR.out.isL
      exact ⟨_, _, _, e⟩
    subst hv2
    clear hown2 hown3 hgr2 hB2
    go_wp2
    go_loopw [7, 9] (fun rv iv wr => ∃ (j : Nat) (R Q : List Nat), SD a b R Q j ∧ IsR (w.heap.size + 1) wr rv R ∧ iv = .int .i64 ((j : Int) - 1) ∧ RowT wr w.heap.size Q ∧ Below w.heap.size w wr) (fun _ iv _ => (intOf iv + 1).toNat)
    case atStart => exact ⟨T, _, _, HST.out, HIR.out, val_int (by omega), HQ2.out, HB2.out⟩
    case round =>
      obtain ⟨j, R, Q, hsd, hir, rfl, hQ, hB⟩ := hrel
      have HSD : Hid (SD a b R Q j) := hsd
      have HIRR : Hid (IsR (w.heap.size + 1) wr u7 R) := hir
      have HQR : Hid (RowT wr w.heap.size Q) := hQ
      have HBR : Hid (Below w.heap.size w wr) := hB
      have hja := hsd.le
      clear hsd hir hQ hB
      cases j with
      | zero =>
        have HE : Hid (val a = val Q * val b + val R ∧ val R < val b) := by
          have e := HSD.out.eq
          unfold vfrom at e
          rw [List.drop_zero, List.drop_zero] at e
          exact ⟨e, HSD.out.lt⟩
        have HQL : Hid (IsL w.heap.size wr (.slice (some ⟨w.heap.size, 0, none⟩) a.length a.length) Q) := by
          have h := HQR.out.isL (B := w.heap.size) (cap := a.length) (Nat.le_refl _) HSD.out.qok (by have := HSD.out.qlen; omega) (by unfold maxLen; omega)
          rw [HSD.out.qlen] at h
          exact h
        go_wp2
        go_ret2
        exact ⟨_, _, Q, R, rfl, ⟨HQL.out, HIRR.out.isL.mono (by omega)⟩, HE.out.1, HE.out.2, HBR.out⟩
      | succ i =>
        have hca := HA.out i (by omega)
        rw [← HBR.out.cell (p := ⟨ba, oa + i, none⟩) hba] at hca
        have hxb := okL_getD a HOK.out.1 i (by omega)
        have HCONT : Hid (val (trimL (a.getD i 0 :: R)) < val b → SD a b (trimL (a.getD i 0 :: R)) Q i) := fun h => HSD.out.cont h hxb HOK.out.2.1
        have HPT : Hid (∀ {q : Nat} {R' : List Nat}, q < 1000000000 → val (a.getD i 0 :: R) = q * val b + val R' → val R' < val b → okL R' → isTrim R' → SD a b R' (Q.set i q) i) := fun {q R'} h1 h2 h3 h4 h5 => HSD.out.put h1 h2 h3 h4 h5 HOK.out.2.1
        have HWN : Hid (val (a.getD i 0 :: R) < val b * 1000000000) := HSD.out.window hxb
        obtain ⟨x, hx⟩ : ∃ x, a.getD i 0 = x := ⟨_, rfl⟩
        rw [hx] at hca hxb HCONT HPT HWN
        obtain ⟨N, hN⟩ : ∃ N, x :: R = N := ⟨_, rfl⟩
        have hNok : okL N := by
          rw [← hN]
          intro y hy
          rcases List.mem_cons.1 hy with e | e
          · omega
          · exact HSD.out.rok y e
        have hRl := HSD.out.rlen
        have HNL : Hid (N.length = R.length + 1 ∧ N.length ≤ 100001) := by
          rw [← hN]
          exact ⟨by simp, by simp; omega⟩
        rw [hN] at HCONT HPT HWN
        have HN : Hid (okL N ∧ True ∧ val N < val b * 1000000000) := ⟨hNok, trivial, HWN.out⟩
        have HNE : Hid (U32s N = Value.int .u32 (x : Nat) :: U32s R) := by rw [← hN]; rfl
        have HLTR : Hid (w.heap.size < wr.heap.size) := HQR.out.lt
        clear hx hN hNok HWN
        go_wp2_with (at_builtin; refine wpList_append_R rfl _ _ 26 rfl (w.heap.size + 1) (w.heap.size + 1) 51 i0 (.int .u32 0) 4 Tryd.underlying26 hinf hz0 hz1 hz2 rfl _ 1 [.int .u32 (x : Nat)] rfl (owns_one wr _ _ _ (by have := HLTR.out; omega)) _ R rfl (HIRR.out.below (below_alloc _ _)) (by unfold maxLen; omega) (by omega) (by have := HLTR.out; simp; omega) ?_)
        intro v3 w3 hown3 hgr3
        rw [← HNE.out] at hown3
        have hB3 : Below w.heap.size w w3 := (HBR.out.alloc HBR.out.size _).grown hgr3 (by have := HBR.out.size; simp; omega) (fun k h => by simp [Value.ownBlock] at h; have := HLTR.out; omega)
        have HQ3 : Hid (RowT w3 w.heap.size Q) := by
          obtain ⟨tl, h⟩ := HQR.out
          refine ⟨tl, (hgr3.block _ (by have := HLTR.out; simp; omega) (by simp [Value.ownBlock]; have := HLTR.out; omega)).trans ?_⟩
          exact (heap_alloc_old wr _ HLTR.out).trans h
        have HB3 : Hid (Below w.heap.size w w3) := hB3
        obtain ⟨_, ⟨_, hnil⟩ | ⟨g, cap, hv3, hg1, hg2, hg3, hg4, hg5⟩⟩ := IsR.of_owns' (e := 51) hown3 HN.out.1
        · exfalso; have := HNL.out.1; rw [hnil] at this; simp at this
        subst hv3
        have HC3 : Hid (∀ q, q < N.length → w3.cell? ⟨g, q, none⟩ = some (.int .u32 (N.getD q 0 : Nat))) := hg5
        have HCUT : Hid (∀ k, k ≤ N.length → trimL N = N.take k → IsR (w.heap.size + 1) w3 (.slice (some ⟨g, 0, none⟩) k cap) (trimL N)) := fun k hk he => IsR.cut hg1 hg2 hg4 HN.out.1 hg3 hg5 k hk he
        have hNl := HNL.out.2
        unfold maxLen at hg4
        clear hown3 hgr3 hB3 hg5 hca
        go_wp2
        go_loop [11] (fun n => ∃ k : Nat, k ≤ N.length ∧ n = .int .i64 k ∧ trimL (N.take k) = trimL N) (fun n => (intOf n).toNat)
        case atStart => exact ⟨N.length, Nat.le_refl _, rfl, by rw [List.take_length]⟩
        case round =>
          obtain ⟨k, hk, rfl, hp⟩ := hrel
          have HP : Hid (trimL (N.take k) = trimL N) := hp
          clear hp
          cases k with
          | zero =>
            have HE : Hid (trimL N = []) := by rw [← HP.out]; rfl
            have HRR : Hid (IsR (w.heap.size + 1) w3 (.slice (some ⟨g, 0, none⟩) 0 cap) (trimL N)) := HCUT.out 0 (by omega) (by rw [← HP.out]; rfl)
            have HRL : Hid (IsL B w3 (.slice (some ⟨g, 0, none⟩) 0 cap) (trimL N)) := HRR.out.isL.mono HBB.out
            have HCM : Hid (cmpL (trimL N) b = -1) := by rw [HE.out]; exact cmpL_nil b HOK.out.2.2.2
            have HSD2 : Hid (SD a b (trimL N) Q i) := HCONT.out (by rw [HE.out]; exact val_pos b HOK.out.2.2.1 HOK.out.2.2.2)
            go_wp2_with fail
            refine (l1CmpD_any B _ _ (trimL N) b _ HRL.out (HB.out _ HB3.out)).mono ?_
            rintro e w4 ⟨rfl, hb4⟩
            rw [HCM.out]
            have HW4 : Hid (IsR (w.heap.size + 1) w4 (.slice (some ⟨g, 0, none⟩) 0 cap) (trimL N) ∧ RowT w4 w.heap.size Q ∧ Below w.heap.size w w4) := ⟨HRR.out.below hb4, HQ3.out.kept hb4, HB3.out.trans (hb4.mono HB3.out.size)⟩
            clear hb4
            go_wp2
            go_roundw
            case rel => exact ⟨i, trimL N, Q, HSD2.out, HW4.out.1, by go_num, HW4.out.2.1, HW4.out.2.2⟩
            case measure => simp [intOf]
          | succ m =>
            obtain ⟨y, hy⟩ : ∃ y, N.getD m 0 = y := ⟨_, rfl⟩
            have hcell := HC3.out m (by omega)
            rw [hy] at hcell
            have HY : Hid (N.getD m 0 = y) := hy
            clear hy
            by_cases h0 : y = 0
            · have hz : ((y : Int) == 0) = true := by rw [beq_iff_eq]; omega
              have HE : Hid (trimL (N.take m) = trimL N) := by rw [← trimL_take_zero N m (by omega) (by rw [HY.out, h0])]; exact HP.out
              clear h0
              go_wp2
              go_round
              case rel => exact ⟨m, by omega, val_int (by omega), HE.out⟩
              case measure => simp [intOf]
            · have hz : ((y : Int) == 0) = false := by rw [beq_eq_false_iff_ne]; omega
              have HRR : Hid (IsR (w.heap.size + 1) w3 (.slice (some ⟨g, 0, none⟩) (m + 1) cap) (trimL N)) := HCUT.out (m + 1) hk (HP.out.symm.trans (trimL_take_pos N m (by omega) (by rw [HY.out]; exact h0)))
              have HRL : Hid (IsL B w3 (.slice (some ⟨g, 0, none⟩) (m + 1) cap) (trimL N)) := HRR.out.isL.mono HBB.out
              have HRLEN : Hid ((trimL N).length = m + 1) := by obtain ⟨_, _, e, _⟩ := HRL.out; simp at e; exact e.2.1.symm
              clear h0
              obtain ⟨cm, hcm⟩ : ∃ cm, cmpL (trimL N) b = cm := ⟨_, rfl⟩
              have HCM : Hid (cmpL (trimL N) b = cm) := hcm
              have hcb : -1 ≤ cm ∧ cm ≤ 1 := by rw [← hcm]; exact cmpL_bd _ b
              obtain ⟨hcb1, hcb2⟩ := hcb
              clear hcm
              go_wp2_with fail
              refine (l1CmpD_any B _ _ (trimL N) b _ HRL.out (HB.out _ HB3.out)).mono ?_
              rintro e w4 ⟨rfl, hb4⟩
              rw [HCM.out]
              have HW4 : Hid (IsR (w.heap.size + 1) w4 (.slice (some ⟨g, 0, none⟩) (m + 1) cap) (trimL N) ∧ RowT w4 w.heap.size Q ∧ Below w.heap.size w w4) := ⟨HRR.out.below hb4, HQ3.out.kept hb4, HB3.out.trans (hb4.mono HB3.out.size)⟩
              clear hb4 hcell
              by_cases hlt : cm < 0
              · have HSD2 : Hid (SD a b (trimL N) Q i) := HCONT.out (cmpL_lt_val _ b (trimL_ok N HN.out.1) HOK.out.2.1 (trimL_trim N) HOK.out.2.2.1 (by rw [HCM.out]; exact hlt))
                go_wp2
                go_roundw
                case rel => exact ⟨i, trimL N, Q, HSD2.out, HW4.out.1, by go_num, HW4.out.2.1, HW4.out.2.2⟩
                case measure => simp [intOf]
              · have HGE : Hid (val b ≤ val N ∧ b.length ≤ (trimL N).length) := by
                  have h := cmpL_ge (trimL N) b (trimL_ok N HN.out.1) HOK.out.2.1 (trimL_trim N) HOK.out.2.2.1 (by rw [HCM.out]; omega)
                  rw [val_trimL] at h
                  exact ⟨h.2, h.1⟩
                have hnl : 0 ≤ cm := by omega
                clear hlt
                go_wp2
                go_loopw [12, 13] (fun lov hiv wq => ∃ lo hi : Nat, lov = .int .u64 (lo : Nat) ∧ hiv = .int .u64 (hi : Nat) ∧ Between (val b) (val N) lo hi ∧ Below w4.heap.size w4 wq) (fun lov hiv _ => (intOf hiv).toNat - (intOf lov).toNat)
                case atStart => exact ⟨0, 999999999, rfl, rfl, between_first _ _ HN.out.2.2, Below.refl _ _⟩
                case round =>
                  obtain ⟨lo, hi, rfl, rfl, hbt, hbq⟩ := hrel
                  have HBT : Hid (Between (val b) (val N) lo hi) := hbt
                  have HBQ : Hid (Below w4.heap.size w4 wr) := hbq
                  have hl1 := hbt.1
                  have hl2 := hbt.2.1
                  clear hbt hbq
                  have HFQ : Hid (Below w.heap.size w wr) := HW4.out.2.2.trans (HBQ.out.mono HW4.out.2.2.size)
                  have HRQ : Hid (IsR (w.heap.size + 1) wr (.slice (some ⟨g, 0, none⟩) (m + 1) cap) (trimL N)) := HW4.out.1.below HBQ.out
                  have HQQ : Hid (RowT wr w.heap.size Q) := HW4.out.2.1.kept HBQ.out
                  by_cases hlh : lo < hi
                  · obtain ⟨M, hM⟩ : ∃ M, (lo + hi + 1) / 2 = M := ⟨_, rfl⟩
                    have hMI : ((lo : Int) + (hi : Int) + 1) / 2 = (M : Int) := by omega
                    have HM : Hid ((lo + hi + 1) / 2 = M) := hM
                    have hM2 : M < 1000000000 := by omega
                    have hM1 : 1 ≤ M := by omega
                    clear hM
                    go_wp2_with fail
                    refine (l1MulD_any B _ b M _ (HB.out _ HFQ.out) hlb hM2).mono ?_
                    rintro e w5 ⟨v5, L5, rfl, hL5, ht5, hv5, hl5, hb5⟩
                    have HL5 : Hid (IsL B w5 v5 L5) := hL5.mono (by have := HFQ.out.size; have := HBW.out; omega)
                    have HV5 : Hid (isTrim L5 ∧ val L5 = val b * M ∧ okL L5) := ⟨ht5, hv5, by obtain ⟨_, _, _, _, _, h, _⟩ := hL5; exact h⟩
                    have HB5 : Hid (Below wr.heap.size wr w5) := hb5
                    obtain ⟨p5, c5, e5, _⟩ := id hL5
                    subst e5
                    clear hL5 ht5 hv5 hl5 hb5
                    go_wp2_with fail
                    refine (l1CmpD_any B _ _ L5 (trimL N) _ HL5.out ((HRQ.out.below HB5.out).isL.mono HBB.out)).mono ?_
                    rintro e w6 ⟨rfl, hb6⟩
                    have HB6 : Hid (Below w4.heap.size w4 w6) := HBQ.out.trans ((HB5.out.trans (hb6.mono HB5.out.size)).mono HBQ.out.size)
                    clear hb6
                    have ho := cmpL_ord L5 (trimL N) HV5.out.2.2 (trimL_ok N HN.out.1) HV5.out.1 (trimL_trim N)
                    rw [val_trimL, HV5.out.2.1] at ho
                    by_cases hc : M * val b ≤ val N
                    · have HUP : Hid (Between (val b) (val N) M hi) := by
                        have h := between_up HBT.out hlh (by rw [HM.out]; exact hc)
                        rw [HM.out] at h
                        exact h
                      obtain ⟨cx, hcx⟩ : ∃ cx, cmpL L5 (trimL N) = cx := ⟨_, rfl⟩
                      have hcx2 : cx ≤ 0 := by rw [← hcx, ho]; exact ord_le _ _ (by rw [Nat.mul_comm]; exact hc)
                      rw [hcx]
                      clear hcx ho hc
                      go_wp2
                      go_roundw
                      case rel => exact ⟨M, hi, rfl, rfl, HUP.out, HB6.out⟩
                      case measure => simp [intOf]; have := HM.out; omega
                    · have HDN : Hid (Between (val b) (val N) lo (M - 1)) := by
                        have h := between_down HBT.out hlh (by rw [HM.out]; omega)
                        rw [HM.out] at h
                        exact h
                      obtain ⟨cx, hcx⟩ : ∃ cx, cmpL L5 (trimL N) = cx := ⟨_, rfl⟩
                      have hcx2 : 0 < cx := by rw [← hcx, ho]; exact ord_gt _ _ (by rw [Nat.mul_comm]; omega)
                      rw [hcx]
                      clear hcx ho hc
                      go_wp2
                      go_roundw
                      case rel => exact ⟨lo, M - 1, rfl, val_int (by omega), HDN.out, HB6.out⟩
                      case measure => simp [intOf]; have := HM.out; omega
                  · obtain rfl : lo = hi := by omega
                    have HLO : Hid (1 ≤ lo ∧ lo * val b ≤ val N ∧ val N < (lo + 1) * val b) := by
                      refine ⟨?_, HBT.out.2.2.1, HBT.out.2.2.2⟩
                      apply Nat.pos_of_ne_zero
                      rintro rfl
                      have h1 := HBT.out.2.2.2
                      have h2 := HGE.out.1
                      omega
                    have hlo1 := HLO.out.1
                    have hqc := HQQ.out.cell i (by have := HSD.out.qlen; have := HSD.out.le; omega)
                    have hqf := HQQ.out.frozen i
                    have HW5 : Hid (RowT (wr.setCell ⟨w.heap.size, i, none⟩ (.int .u32 (lo : Nat))) w.heap.size (Q.set i lo) ∧ IsR (w.heap.size + 1) (wr.setCell ⟨w.heap.size, i, none⟩ (.int .u32 (lo : Nat))) (.slice (some ⟨g, 0, none⟩) (m + 1) cap) (trimL N) ∧ Below w.heap.size w (wr.setCell ⟨w.heap.size, i, none⟩ (.int .u32 (lo : Nat)))) :=
                      ⟨HQQ.out.set _ _ (by have := HSD.out.qlen; have := HSD.out.le; omega), HRQ.out.setCell _ _ (by show w.heap.size < w.heap.size + 1; omega), HFQ.out.setCell (Nat.le_refl _) _⟩
                    obtain ⟨W5, hW5⟩ : ∃ W5, wr.setCell ⟨w.heap.size, i, none⟩ (.int .u32 (lo : Nat)) = W5 := ⟨_, rfl⟩
                    have HWW : Hid (wr.setCell ⟨w.heap.size, i, none⟩ (.int .u32 (lo : Nat)) = W5) := hW5
                    rw [hW5] at HW5
                    clear hW5 hlh
                    go_wp2_with fail
                    rw [HWW.out]
                    clear hqc hqf
                    refine (l1MulD_any B _ b lo _ (HB.out _ HW5.out.2.2) hlb (by omega)).mono ?_
                    rintro e w6 ⟨v6, L6, rfl, hL6, ht6, hv6, hl6, hb6⟩
                    have HL6 : Hid (IsL B w6 v6 L6 ∧ isTrim L6 ∧ val L6 = val b * lo ∧ okL L6) := ⟨hL6.mono (by have := HW5.out.2.2.size; have := HBW.out; omega), ht6, hv6, by obtain ⟨_, _, _, _, _, h, _⟩ := hL6; exact h⟩
                    have HB6 : Hid (Below W5.heap.size W5 w6) := hb6
                    obtain ⟨p6, c6, e6, _⟩ := id hL6
                    subst e6
                    clear hL6 ht6 hv6 hl6 hb6
                    go_wp2_with fail
                    have hle6 : val L6 ≤ val (trimL N) := by rw [HL6.out.2.2.1, val_trimL, Nat.mul_comm]; exact HLO.out.2.1
                    have hsub := l1SubD_len B (.slice (some ⟨g, 0, none⟩) (m + 1) cap) (.slice p6 L6.length c6) (trimL N) L6 w6 ((HW5.out.2.1.below HB6.out).isL.mono HBB.out) HL6.out.1 (by have := HNL.out; have := trimL_len N; omega) (len_of_le L6 (trimL N) HL6.out.2.1 (trimL_ok N HN.out.1) hle6) hle6
                    rw [HRLEN.out] at hsub
                    refine hsub.mono ?_
                    clear hsub hle6
                    rintro e w7 ⟨S, rfl, hS, hvS, hlS, hb7⟩
                    have hSok : okL S := by obtain ⟨_, _, _, _, _, h, _⟩ := hS; exact h
                    have HS : Hid (okL S ∧ S.length = m + 1 ∧ val S + lo * val b = val N) := ⟨hSok, hlS, by rw [HL6.out.2.2.1, val_trimL] at hvS; rw [Nat.mul_comm lo]; exact hvS⟩
                    have hG : w.heap.size + 1 ≤ w6.heap.size := by have := HW5.out.1.lt; have := HB6.out.size; omega
                    have HC7 : Hid (∀ q, q < S.length → w7.cell? ⟨w6.heap.size, q, none⟩ = some (.int .u32 (S.getD q 0 : Nat))) := fun q hq => by
                      obtain ⟨_, _, _, _, hcs⟩ := hS.cells
                      obtain ⟨b', off', e, _, hc⟩ := hcs q hq
                      simp only [Option.some.injEq, Addr.mk.injEq, and_true] at e
                      obtain ⟨rfl, rfl⟩ := e
                      rw [Nat.zero_add] at hc
                      exact hc
                    have HLT7 : Hid (w6.heap.size < w7.heap.size) := by
                      obtain ⟨_, _, _, _, hcs⟩ := hS.cells
                      obtain ⟨b', off', e, hlt, hc⟩ := hcs 0 (by omega)
                      simp only [Option.some.injEq, Addr.mk.injEq, and_true] at e
                      obtain ⟨rfl, rfl⟩ := e
                      exact hlt
                    have HW7 : Hid (RowT w7 w.heap.size (Q.set i lo) ∧ Below w.heap.size w w7) := ⟨(HW5.out.1.kept HB6.out).kept hb7, HW5.out.2.2.trans ((HB6.out.trans (hb7.mono HB6.out.size)).mono HW5.out.2.2.size)⟩
                    have HCUT7 : Hid (∀ k, k ≤ S.length → trimL S = S.take k → IsR (w.heap.size + 1) w7 (.slice (some ⟨w6.heap.size, 0, none⟩) k (m + 1)) (trimL S)) := fun k hk he => IsR.cut hG HLT7.out (by unfold maxLen; have := HNL.out; have := trimL_len N; have := HRLEN.out; omega) hSok (by omega) HC7.out k hk he
                    have HPUT : Hid (SD a b (trimL S) (Q.set i lo) i) := by
                      refine HPT.out (by omega) ?_ ?_ (trimL_ok S hSok) (trimL_trim S)
                      · rw [val_trimL]; have := HS.out.2.2; omega
                      · rw [val_trimL]
                        have h1 := HS.out.2.2
                        have h2 := HLO.out.2.2
                        rw [Nat.add_mul, Nat.one_mul] at h2
                        omega
                    clear hS hvS hlS hb7 hSok hG
                    go_wp2
                    go_loop [16] (fun n => ∃ k : Nat, k ≤ S.length ∧ n = .int .i64 k ∧ trimL (S.take k) = trimL S) (fun n => (intOf n).toNat)
                    case atStart => exact ⟨S.length, Nat.le_refl _, val_int (by have := HS.out.2.1; omega), by rw [List.take_length]⟩
                    case round =>
                      obtain ⟨k, hk, rfl, hp⟩ := hrel
                      have HP2 : Hid (trimL (S.take k) = trimL S) := hp
                      have hSl := HS.out.2.1
                      clear hp
                      cases k with
                      | zero =>
                        have HRR2 : Hid (IsR (w.heap.size + 1) w7 (.slice (some ⟨w6.heap.size, 0, none⟩) 0 (m + 1)) (trimL S)) := HCUT7.out 0 (by omega) (by rw [← HP2.out]; rfl)
                        clear hSl
                        go_wp2
                        go_roundw
                        case rel => exact ⟨i, trimL S, Q.set i lo, HPUT.out, HRR2.out, by go_num, HW7.out.1, HW7.out.2⟩
                        case measure => simp [intOf]
                      | succ p =>
                        obtain ⟨y, hy⟩ : ∃ y, S.getD p 0 = y := ⟨_, rfl⟩
                        have hcell := HC7.out p (by omega)
                        rw [hy] at hcell
                        have HY2 : Hid (S.getD p 0 = y) := hy
                        have hpm : p < m + 1 := by omega
                        clear hy
                        by_cases h0 : y = 0
                        · have hz : ((y : Int) == 0) = true := by rw [beq_iff_eq]; omega
                          have HE2 : Hid (trimL (S.take p) = trimL S) := by rw [← trimL_take_zero S p (by omega) (by rw [HY2.out, h0])]; exact HP2.out
                          clear h0 hSl
                          go_wp2
                          go_round
                          case rel => exact ⟨p, by have := HS.out.2.1; omega, val_int (by omega), HE2.out⟩
                          case measure => simp [intOf]
                        · have hz : ((y : Int) == 0) = false := by rw [beq_eq_false_iff_ne]; omega
                          have HRR2 : Hid (IsR (w.heap.size + 1) w7 (.slice (some ⟨w6.heap.size, 0, none⟩) (p + 1) (m + 1)) (trimL S)) := HCUT7.out (p + 1) (by omega) (HP2.out.symm.trans (trimL_take_pos S p (by omega) (by rw [HY2.out]; exact h0)))
                          clear h0 hSl
                          go_wp2
                          go_roundw
                          case rel => exact ⟨i, trimL S, Q.set i lo, HPUT.out, HRR2.out, by go_num, HW7.out.1, HW7.out.2⟩
                          case measure => simp [intOf]
  · have z1 : decide ((T : Int) < 0) = false := by rw [decide_eq_false_iff_not]; omega
    have HE3 : Hid (a.length = T) := hc3
    have HCT := HCS.out.2
    have z2 : decide (a.length < T) = false := by rw [decide_eq_false_iff_not]; omega
    have z3 : decide ((a.length : Int) < (T : Int)) = false := by rw [decide_eq_false_iff_not]; omega
    clear HCT hc3
    go_enter Tryd.func36, Tryd.ntmps36
    go_wp2_with (at_make; refine wpList_make_full _ rfl _ _ 26 rfl w.heap.size 51 i0 (.int .u32 0) 1 Tryd.underlying26 hinf hz0 hz1 .i64 .i64 _ _ a.length rfl rfl (by first | rfl | omega) (by first | rfl | omega) (by first | omega | (rw [hz2]; omega)) (by unfold maxLen; omega) (Nat.le_refl _) ?_)
    intro w1 hown hgr
    first | rw [made_zero] at hown | rw [made_zero'] at hown
    have hQ1 : RowT w1 w.heap.size (List.replicate a.length 0) := (row_of_full hown).tail
    have hB1 : Below w.heap.size w w1 := (Below.refl _ _).grown hgr (Nat.le_refl _) (fun k h => by cases h)
    have HQ1 : Hid (RowT w1 w.heap.size (List.replicate a.length 0)) := hQ1
    have HB1 : Hid (Below w.heap.size w w1) := hB1
    have HLT1 : Hid (w.heap.size < w1.heap.size) := hQ1.lt
    clear hown hgr hQ1 hB1
    have hTl := HCS.out.2
    go_wp2_with (at_builtin; refine wpList_append_own _ rfl _ _ 26 rfl (w.heap.size + 1) 51 i0 (.int .u32 0) 1 4 Tryd.underlying26 hinf hz0 hz1 hz2 rfl (by decide) _ 0 [] rfl (World.ownsRow_nil _ _ _ _) ⟨ba, oa, none⟩ (a.length - T) 0 (U32s (a.drop T)) rfl (by simp) (fun q u hq => by have := HE3.out; rw [show a.drop T = [] from List.drop_eq_nil_of_le (by omega)] at hq; simp at hq) (one_cells _) (by unfold maxLen; omega) (by omega) (by have := HLT1.out; omega) ?_)
    intro v2 w2 hown2 hgr2 _
    try rw [← List.map_drop] at hown2
    have hown3 := hown2
    have hB2 : Below w.heap.size w w2 := HB1.out.grown hgr2 HB1.out.size (fun k h => by cases h)
    have HIR : Hid (IsR (w.heap.size + 1) w2 v2 (a.drop T)) := IsR.of_owns' (e := 51) (R := a.drop T) hown3 HST.out.rok
    have HQ2 : Hid (RowT w2 w.heap.size (List.replicate a.length 0)) := by
      obtain ⟨tl, h⟩ := HQ1.out
      exact ⟨tl, (hgr2.block _ HLT1.out (by simp [Value.ownBlock])).trans h⟩
    have HB2 : Hid (Below w.heap.size w w2) := hB2
    obtain ⟨pr, lr, cr, hv2⟩ : ∃ pr lr cr, v2 = .slice pr lr cr := by
      obtain ⟨_, _, e, _⟩ := HIR.out.isL
      exact ⟨_, _, _, e⟩
    subst hv2
    clear hown2 hown3 hgr2 hB2
    go_wp2
    go_loopw [7, 9] (fun rv iv wr => ∃ (j : Nat) (R Q : List Nat), SD a b R Q j ∧ IsR (w.heap.size + 1) wr rv R ∧ iv = .int .i64 ((j : Int) - 1) ∧ RowT wr w.heap.size Q ∧ Below w.heap.size w wr) (fun _ iv _ => (intOf iv + 1).toNat)
    case atStart => exact ⟨T, _, _, HST.out, HIR.out, val_int (by omega), HQ2.out, HB2.out⟩
    case round =>
      obtain ⟨j, R, Q, hsd, hir, rfl, hQ, hB⟩ := hrel
      have HSD : Hid (SD a b R Q j) := hsd
      have HIRR : Hid (IsR (w.heap.size + 1) wr u7 R) := hir
      have HQR : Hid (RowT wr w.heap.size Q) := hQ
      have HBR : Hid (Below w.heap.size w wr) := hB
      have hja := hsd.le
      clear hsd hir hQ hB
      cases j with
      | zero =>
        have HE : Hid (val a = val Q * val b + val R ∧ val R < val b) := by
          have e := HSD.out.eq
          unfold vfrom at e
          rw [List.drop_zero, List.drop_zero] at e
          exact ⟨e, HSD.out.lt⟩
        have HQL : Hid (IsL w.heap.size wr (.slice (some ⟨w.heap.size, 0, none⟩) a.length a.length) Q) := by
          have h := HQR.out.isL (B := w.heap.size) (cap := a.length) (Nat.le_refl _) HSD.out.qok (by have := HSD.out.qlen; omega) (by unfold maxLen; omega)
          rw [HSD.out.qlen] at h
          exact h
        go_wp2
        go_ret2
        exact ⟨_, _, Q, R, rfl, ⟨HQL.out, HIRR.out.isL.mono (by omega)⟩, HE.out.1, HE.out.2, HBR.out⟩
      | succ i =>
        have hca := HA.out i (by omega)
        rw [← HBR.out.cell (p := ⟨ba, oa + i, none⟩) hba] at hca
        have hxb := okL_getD a HOK.out.1 i (by omega)
        have HCONT : Hid (val (trimL (a.getD i 0 :: R)) < val b → SD a b (trimL (a.getD i 0 :: R)) Q i) := fun h => HSD.out.cont h hxb HOK.out.2.1
        have HPT : Hid (∀ {q : Nat} {R' : List Nat}, q < 1000000000 → val (a.getD i 0 :: R) = q * val b + val R' → val R' < val b → okL R' → isTrim R' → SD a b R' (Q.set i q) i) := fun {q R'} h1 h2 h3 h4 h5 => HSD.out.put h1 h2 h3 h4 h5 HOK.out.2.1
        have HWN : Hid (val (a.getD i 0 :: R) < val b * 1000000000) := HSD.out.window hxb
        obtain ⟨x, hx⟩ : ∃ x, a.getD i 0 = x := ⟨_, rfl⟩
        rw [hx] at hca hxb HCONT HPT HWN
        obtain ⟨N, hN⟩ : ∃ N, x :: R = N := ⟨_, rfl⟩
        have hNok : okL N := by
          rw [← hN]
          intro y hy
          rcases List.mem_cons.1 hy with e | e
          · omega
          · exact HSD.out.rok y e
        have hRl := HSD.out.rlen
        have HNL : Hid (N.length = R.length + 1 ∧ N.length ≤ 100001) := by
          rw [← hN]
          exact ⟨by simp, by simp; omega⟩
        rw [hN] at HCONT HPT HWN
        have HN : Hid (okL N ∧ True ∧ val N < val b * 1000000000) := ⟨hNok, trivial, HWN.out⟩
        have HNE : Hid (U32s N = Value.int .u32 (x : Nat) :: U32s R) := by rw [← hN]; rfl
        have HLTR : Hid (w.heap.size < wr.heap.size) := HQR.out.lt
        clear hx hN hNok HWN
        go_wp2_with (at_builtin; refine wpList_append_R rfl _ _ 26 rfl (w.heap.size + 1) (w.heap.size + 1) 51 i0 (.int .u32 0) 4 Tryd.underlying26 hinf hz0 hz1 hz2 rfl _ 1 [.int .u32 (x : Nat)] rfl (owns_one wr _ _ _ (by have := HLTR.out; omega)) _ R rfl (HIRR.out.below (below_alloc _ _)) (by unfold maxLen; omega) (by omega) (by have := HLTR.out; simp; omega) ?_)
        intro v3 w3 hown3 hgr3
        rw [← HNE.out] at hown3
        have hB3 : Below w.heap.size w w3 := (HBR.out.alloc HBR.out.size _).grown hgr3 (by have := HBR.out.size; simp; omega) (fun k h => by simp [Value.ownBlock] at h; have := HLTR.out; omega)
        have HQ3 : Hid (RowT w3 w.heap.size Q) := by
          obtain ⟨tl, h⟩ := HQR.out
          refine ⟨tl, (hgr3.block _ (by have := HLTR.out; simp; omega) (by simp [Value.ownBlock]; have := HLTR.out; omega)).trans ?_⟩
          exact (heap_alloc_old wr _ HLTR.out).trans h
        have HB3 : Hid (Below w.heap.size w w3) := hB3
        obtain ⟨_, ⟨_, hnil⟩ | ⟨g, cap, hv3, hg1, hg2, hg3, hg4, hg5⟩⟩ := IsR.of_owns' (e := 51) hown3 HN.out.1
        · exfalso; have := HNL.out.1; rw [hnil] at this; simp at this
        subst hv3
        have HC3 : Hid (∀ q, q < N.length → w3.cell? ⟨g, q, none⟩ = some (.int .u32 (N.getD q 0 : Nat))) := hg5
        have HCUT : Hid (∀ k, k ≤ N.length → trimL N = N.take k → IsR (w.heap.size + 1) w3 (.slice (some ⟨g, 0, none⟩) k cap) (trimL N)) := fun k hk he => IsR.cut hg1 hg2 hg4 HN.out.1 hg3 hg5 k hk he
        have hNl := HNL.out.2
        unfold maxLen at hg4
        clear hown3 hgr3 hB3 hg5 hca
        go_wp2
        go_loop [11] (fun n => ∃ k : Nat, k ≤ N.length ∧ n = .int .i64 k ∧ trimL (N.take k) = trimL N) (fun n => (intOf n).toNat)
        case atStart => exact ⟨N.length, Nat.le_refl _, rfl, by rw [List.take_length]⟩
        case round =>
          obtain ⟨k, hk, rfl, hp⟩ := hrel
          have HP : Hid (trimL (N.take k) = trimL N) := hp
          clear hp
          cases k with
          | zero =>
            have HE : Hid (trimL N = []) := by rw [← HP.out]; rfl
            have HRR : Hid (IsR (w.heap.size + 1) w3 (.slice (some ⟨g, 0, none⟩) 0 cap) (trimL N)) := HCUT.out 0 (by omega) (by rw [← HP.out]; rfl)
            have HRL : Hid (IsL B w3 (.slice (some ⟨g, 0, none⟩) 0 cap) (trimL N)) := HRR.out.isL.mono HBB.out
            have HCM : Hid (cmpL (trimL N) b = -1) := by rw [HE.out]; exact cmpL_nil b HOK.out.2.2.2
            have HSD2 : Hid (SD a b (trimL N) Q i) := HCONT.out (by rw [HE.out]; exact val_pos b HOK.out.2.2.1 HOK.out.2.2.2)
            go_wp2_with fail
            refine (l1CmpD_any B _ _ (trimL N) b _ HRL.out (HB.out _ HB3.out)).mono ?_
            rintro e w4 ⟨rfl, hb4⟩
            rw [HCM.out]
            have HW4 : Hid (IsR (w.heap.size + 1) w4 (.slice (some ⟨g, 0, none⟩) 0 cap) (trimL N) ∧ RowT w4 w.heap.size Q ∧ Below w.heap.size w w4) := ⟨HRR.out.below hb4, HQ3.out.kept hb4, HB3.out.trans (hb4.mono HB3.out.size)⟩
            clear hb4
            go_wp2
            go_roundw
            case rel => exact ⟨i, trimL N, Q, HSD2.out, HW4.out.1, by go_num, HW4.out.2.1, HW4.out.2.2⟩
            case measure => simp [intOf]
          | succ m =>
            obtain ⟨y, hy⟩ : ∃ y, N.getD m 0 = y := ⟨_, rfl⟩
            have hcell := HC3.out m (by omega)
            rw [hy] at hcell
            have HY : Hid (N.getD m 0 = y) := hy
            clear hy
            by_cases h0 : y = 0
            · have hz : ((y : Int) == 0) = true := by rw [beq_iff_eq]; omega
              have HE : Hid (trimL (N.take m) = trimL N) := by rw [← trimL_take_zero N m (by omega) (by rw [HY.out, h0])]; exact HP.out
              clear h0
              go_wp2
              go_round
              case rel => exact ⟨m, by omega, val_int (by omega), HE.out⟩
              case measure => simp [intOf]
            · have hz : ((y : Int) == 0) = false := by rw [beq_eq_false_iff_ne]; omega
              have HRR : Hid (IsR (w.heap.size + 1) w3 (.slice (some ⟨g, 0, none⟩) (m + 1) cap) (trimL N)) := HCUT.out (m + 1) hk (HP.out.symm.trans (trimL_take_pos N m (by omega) (by rw [HY.out]; exact h0)))
              have HRL : Hid (IsL B w3 (.slice (some ⟨g, 0, none⟩) (m + 1) cap) (trimL N)) := HRR.out.isL.mono HBB.out
              have HRLEN : Hid ((trimL N).length = m + 1) := by obtain ⟨_, _, e, _⟩ := HRL.out; simp at e; exact e.2.1.symm
              clear h0
              obtain ⟨cm, hcm⟩ : ∃ cm, cmpL (trimL N) b = cm := ⟨_, rfl⟩
              have HCM : Hid (cmpL (trimL N) b = cm) := hcm
              have hcb : -1 ≤ cm ∧ cm ≤ 1 := by rw [← hcm]; exact cmpL_bd _ b
              obtain ⟨hcb1, hcb2⟩ := hcb
              clear hcm
              go_wp2_with fail
              refine (l1CmpD_any B _ _ (trimL N) b _ HRL.out (HB.out _ HB3.out)).mono ?_
              rintro e w4 ⟨rfl, hb4⟩
              rw [HCM.out]
              have HW4 : Hid (IsR (w.heap.size + 1) w4 (.slice (some ⟨g, 0, none⟩) (m + 1) cap) (trimL N) ∧ RowT w4 w.heap.size Q ∧ Below w.heap.size w w4) := ⟨HRR.out.below hb4, HQ3.out.kept hb4, HB3.out.trans (hb4.mono HB3.out.size)⟩
              clear hb4 hcell
              by_cases hlt : cm < 0
              · have HSD2 : Hid (SD a b (trimL N) Q i) := HCONT.out (cmpL_lt_val _ b (trimL_ok N HN.out.1) HOK.out.2.1 (trimL_trim N) HOK.out.2.2.1 (by rw [HCM.out]; exact hlt))
                go_wp2
                go_roundw
                case rel => exact ⟨i, trimL N, Q, HSD2.out, HW4.out.1, by go_num, HW4.out.2.1, HW4.out.2.2⟩
                case measure => simp [intOf]
              · have HGE : Hid (val b ≤ val N ∧ b.length ≤ (trimL N).length) := by
                  have h := cmpL_ge (trimL N) b (trimL_ok N HN.out.1) HOK.out.2.1 (trimL_trim N) HOK.out.2.2.1 (by rw [HCM.out]; omega)
                  rw [val_trimL] at h
                  exact ⟨h.2, h.1⟩
                have hnl : 0 ≤ cm := by omega
                clear hlt
                go_wp2
                go_loopw [12, 13] (fun lov hiv wq => ∃ lo hi : Nat, lov = .int .u64 (lo : Nat) ∧ hiv = .int .u64 (hi : Nat) ∧ Between (val b) (val N) lo hi ∧ Below w4.heap.size w4 wq) (fun lov hiv _ => (intOf hiv).toNat - (intOf lov).toNat)
                case atStart => exact ⟨0, 999999999, rfl, rfl, between_first _ _ HN.out.2.2, Below.refl _ _⟩
                case round =>
                  obtain ⟨lo, hi, rfl, rfl, hbt, hbq⟩ := hrel
                  have HBT : Hid (Between (val b) (val N) lo hi) := hbt
                  have HBQ : Hid (Below w4.heap.size w4 wr) := hbq
                  have hl1 := hbt.1
                  have hl2 := hbt.2.1
                  clear hbt hbq
                  have HFQ : Hid (Below w.heap.size w wr) := HW4.out.2.2.trans (HBQ.out.mono HW4.out.2.2.size)
                  have HRQ : Hid (IsR (w.heap.size + 1) wr (.slice (some ⟨g, 0, none⟩) (m + 1) cap) (trimL N)) := HW4.out.1.below HBQ.out
                  have HQQ : Hid (RowT wr w.heap.size Q) := HW4.out.2.1.kept HBQ.out
                  by_cases hlh : lo < hi
                  · obtain ⟨M, hM⟩ : ∃ M, (lo + hi + 1) / 2 = M := ⟨_, rfl⟩
                    have hMI : ((lo : Int) + (hi : Int) + 1) / 2 = (M : Int) := by omega
                    have HM : Hid ((lo + hi + 1) / 2 = M) := hM
                    have hM2 : M < 1000000000 := by omega
                    have hM1 : 1 ≤ M := by omega
                    clear hM
                    go_wp2_with fail
                    refine (l1MulD_any B _ b M _ (HB.out _ HFQ.out) hlb hM2).mono ?_
                    rintro e w5 ⟨v5, L5, rfl, hL5, ht5, hv5, hl5, hb5⟩
                    have HL5 : Hid (IsL B w5 v5 L5) := hL5.mono (by have := HFQ.out.size; have := HBW.out; omega)
                    have HV5 : Hid (isTrim L5 ∧ val L5 = val b * M ∧ okL L5) := ⟨ht5, hv5, by obtain ⟨_, _, _, _, _, h, _⟩ := hL5; exact h⟩
                    have HB5 : Hid (Below wr.heap.size wr w5) := hb5
                    obtain ⟨p5, c5, e5, _⟩ := id hL5
                    subst e5
                    clear hL5 ht5 hv5 hl5 hb5
                    go_wp2_with fail
                    refine (l1CmpD_any B _ _ L5 (trimL N) _ HL5.out ((HRQ.out.below HB5.out).isL.mono HBB.out)).mono ?_
                    rintro e w6 ⟨rfl, hb6⟩
                    have HB6 : Hid (Below w4.heap.size w4 w6) := HBQ.out.trans ((HB5.out.trans (hb6.mono HB5.out.size)).mono HBQ.out.size)
                    clear hb6
                    have ho := cmpL_ord L5 (trimL N) HV5.out.2.2 (trimL_ok N HN.out.1) HV5.out.1 (trimL_trim N)
                    rw [val_trimL, HV5.out.2.1] at ho
                    by_cases hc : M * val b ≤ val N
                    · have HUP : Hid (Between (val b) (val N) M hi) := by
                        have h := between_up HBT.out hlh (by rw [HM.out]; exact hc)
                        rw [HM.out] at h
                        exact h
                      obtain ⟨cx, hcx⟩ : ∃ cx, cmpL L5 (trimL N) = cx := ⟨_, rfl⟩
                      have hcx2 : cx ≤ 0 := by rw [← hcx, ho]; exact ord_le _ _ (by rw [Nat.mul_comm]; exact hc)
                      rw [hcx]
                      clear hcx ho hc
                      go_wp2
                      go_roundw
                      case rel => exact ⟨M, hi, rfl, rfl, HUP.out, HB6.out⟩
                      case measure => simp [intOf]; have := HM.out; omega
                    · have HDN : Hid (Between (val b) (val N) lo (M - 1)) := by
                        have h := between_down HBT.out hlh (by rw [HM.out]; omega)
                        rw [HM.out] at h
                        exact h
                      obtain ⟨cx, hcx⟩ : ∃ cx, cmpL L5 (trimL N) = cx := ⟨_, rfl⟩
                      have hcx2 : 0 < cx := by rw [← hcx, ho]; exact ord_gt _ _ (by rw [Nat.mul_comm]; omega)
                      rw [hcx]
                      clear hcx ho hc
                      go_wp2
                      go_roundw
                      case rel => exact ⟨lo, M - 1, rfl, val_int (by omega), HDN.out, HB6.out⟩
                      case measure => simp [intOf]; have := HM.out; omega
                  · obtain rfl : lo = hi := by omega
                    have HLO : Hid (1 ≤ lo ∧ lo * val b ≤ val N ∧ val N < (lo + 1) * val b) := by
                      refine ⟨?_, HBT.out.2.2.1, HBT.out.2.2.2⟩
                      apply Nat.pos_of_ne_zero
                      rintro rfl
                      have h1 := HBT.out.2.2.2
                      have h2 := HGE.out.1
                      omega
                    have hlo1 := HLO.out.1
                    have hqc := HQQ.out.cell i (by have := HSD.out.qlen; have := HSD.out.le; omega)
                    have hqf := HQQ.out.frozen i
                    have HW5 : Hid (RowT (wr.setCell ⟨w.heap.size, i, none⟩ (.int .u32 (lo : Nat))) w.heap.size (Q.set i lo) ∧ IsR (w.heap.size + 1) (wr.setCell ⟨w.heap.size, i, none⟩ (.int .u32 (lo : Nat))) (.slice (some ⟨g, 0, none⟩) (m + 1) cap) (trimL N) ∧ Below w.heap.size w (wr.setCell ⟨w.heap.size, i, none⟩ (.int .u32 (lo : Nat)))) :=
                      ⟨HQQ.out.set _ _ (by have := HSD.out.qlen; have := HSD.out.le; omega), HRQ.out.setCell _ _ (by show w.heap.size < w.heap.size + 1; omega), HFQ.out.setCell (Nat.le_refl _) _⟩
                    obtain ⟨W5, hW5⟩ : ∃ W5, wr.setCell ⟨w.heap.size, i, none⟩ (.int .u32 (lo : Nat)) = W5 := ⟨_, rfl⟩
                    have HWW : Hid (wr.setCell ⟨w.heap.size, i, none⟩ (.int .u32 (lo : Nat)) = W5) := hW5
                    rw [hW5] at HW5
                    clear hW5 hlh
                    go_wp2_with fail
                    rw [HWW.out]
                    clear hqc hqf
                    refine (l1MulD_any B _ b lo _ (HB.out _ HW5.out.2.2) hlb (by omega)).mono ?_
                    rintro e w6 ⟨v6, L6, rfl, hL6, ht6, hv6, hl6, hb6⟩
                    have HL6 : Hid (IsL B w6 v6 L6 ∧ isTrim L6 ∧ val L6 = val b * lo ∧ okL L6) := ⟨hL6.mono (by have := HW5.out.2.2.size; have := HBW.out; omega), ht6, hv6, by obtain ⟨_, _, _, _, _, h, _⟩ := hL6; exact h⟩
                    have HB6 : Hid (Below W5.heap.size W5 w6) := hb6
                    obtain ⟨p6, c6, e6, _⟩ := id hL6
                    subst e6
                    clear hL6 ht6 hv6 hl6 hb6
                    go_wp2_with fail
                    have hle6 : val L6 ≤ val (trimL N) := by rw [HL6.out.2.2.1, val_trimL, Nat.mul_comm]; exact HLO.out.2.1
                    have hsub := l1SubD_len B (.slice (some ⟨g, 0, none⟩) (m + 1) cap) (.slice p6 L6.length c6) (trimL N) L6 w6 ((HW5.out.2.1.below HB6.out).isL.mono HBB.out) HL6.out.1 (by have := HNL.out; have := trimL_len N; omega) (len_of_le L6 (trimL N) HL6.out.2.1 (trimL_ok N HN.out.1) hle6) hle6
                    rw [HRLEN.out] at hsub
                    refine hsub.mono ?_
                    clear hsub hle6
                    rintro e w7 ⟨S, rfl, hS, hvS, hlS, hb7⟩
                    have hSok : okL S := by obtain ⟨_, _, _, _, _, h, _⟩ := hS; exact h
                    have HS : Hid (okL S ∧ S.length = m + 1 ∧ val S + lo * val b = val N) := ⟨hSok, hlS, by rw [HL6.out.2.2.1, val_trimL] at hvS; rw [Nat.mul_comm lo]; exact hvS⟩
                    have hG : w.heap.size + 1 ≤ w6.heap.size := by have := HW5.out.1.lt; have := HB6.out.size; omega
                    have HC7 : Hid (∀ q, q < S.length → w7.cell? ⟨w6.heap.size, q, none⟩ = some (.int .u32 (S.getD q 0 : Nat))) := fun q hq => by
                      obtain ⟨_, _, _, _, hcs⟩ := hS.cells
                      obtain ⟨b', off', e, _, hc⟩ := hcs q hq
                      simp only [Option.some.injEq, Addr.mk.injEq, and_true] at e
                      obtain ⟨rfl, rfl⟩ := e
                      rw [Nat.zero_add] at hc
                      exact hc
                    have HLT7 : Hid (w6.heap.size < w7.heap.size) := by
                      obtain ⟨_, _, _, _, hcs⟩ := hS.cells
                      obtain ⟨b', off', e, hlt, hc⟩ := hcs 0 (by omega)
                      simp only [Option.some.injEq, Addr.mk.injEq, and_true] at e
                      obtain ⟨rfl, rfl⟩ := e
                      exact hlt
                    have HW7 : Hid (RowT w7 w.heap.size (Q.set i lo) ∧ Below w.heap.size w w7) := ⟨(HW5.out.1.kept HB6.out).kept hb7, HW5.out.2.2.trans ((HB6.out.trans (hb7.mono HB6.out.size)).mono HW5.out.2.2.size)⟩
                    have HCUT7 : Hid (∀ k, k ≤ S.length → trimL S = S.take k → IsR (w.heap.size + 1) w7 (.slice (some ⟨w6.heap.size, 0, none⟩) k (m + 1)) (trimL S)) := fun k hk he => IsR.cut hG HLT7.out (by unfold maxLen; have := HNL.out; have := trimL_len N; have := HRLEN.out; omega) hSok (by omega) HC7.out k hk he
                    have HPUT : Hid (SD a b (trimL S) (Q.set i lo) i) := by
                      refine HPT.out (by omega) ?_ ?_ (trimL_ok S hSok) (trimL_trim S)
                      · rw [val_trimL]; have := HS.out.2.2; omega
                      · rw [val_trimL]
                        have h1 := HS.out.2.2
                        have h2 := HLO.out.2.2
                        rw [Nat.add_mul, Nat.one_mul] at h2
                        omega
                    clear hS hvS hlS hb7 hSok hG
                    go_wp2
                    go_loop [16] (fun n => ∃ k : Nat, k ≤ S.length ∧ n = .int .i64 k ∧ trimL (S.take k) = trimL S) (fun n => (intOf n).toNat)
                    case atStart => exact ⟨S.length, Nat.le_refl _, val_int (by have := HS.out.2.1; omega), by rw [List.take_length]⟩
                    case round =>
                      obtain ⟨k, hk, rfl, hp⟩ := hrel
                      have HP2 : Hid (trimL (S.take k) = trimL S) := hp
                      have hSl := HS.out.2.1
                      clear hp
                      cases k with
                      | zero =>
                        have HRR2 : Hid (IsR (w.heap.size + 1) w7 (.slice (some ⟨w6.heap.size, 0, none⟩) 0 (m + 1)) (trimL S)) := HCUT7.out 0 (by omega) (by rw [← HP2.out]; rfl)
                        clear hSl
                        go_wp2
                        go_roundw
                        case rel => exact ⟨i, trimL S, Q.set i lo, HPUT.out, HRR2.out, by go_num, HW7.out.1, HW7.out.2⟩
                        case measure => simp [intOf]
                      | succ p =>
                        obtain ⟨y, hy⟩ : ∃ y, S.getD p 0 = y := ⟨_, rfl⟩
                        have hcell := HC7.out p (by omega)
                        rw [hy] at hcell
                        have HY2 : Hid (S.getD p 0 = y) := hy
                        have hpm : p < m + 1 := by omega
                        clear hy
                        by_cases h0 : y = 0
                        · have hz : ((y : Int) == 0) = true := by rw [beq_iff_eq]; omega
                          have HE2 : Hid (trimL (S.take p) = trimL S) := by rw [← trimL_take_zero S p (by omega) (by rw [HY2.out, h0])]; exact HP2.out
                          clear h0 hSl
                          go_wp2
                          go_round
                          case rel => exact ⟨p, by have := HS.out.2.1; omega, val_int (by omega), HE2.out⟩
                          case measure => simp [intOf]
                        · have hz : ((y : Int) == 0) = false := by rw [beq_eq_false_iff_ne]; omega
                          have HRR2 : Hid (IsR (w.heap.size + 1) w7 (.slice (some ⟨w6.heap.size, 0, none⟩) (p + 1) (m + 1)) (trimL S)) := HCUT7.out (p + 1) (by omega) (HP2.out.symm.trans (trimL_take_pos S p (by omega) (by rw [HY2.out]; exact h0)))
                          clear h0 hSl
                          go_wp2
                          go_roundw
                          case rel => exact ⟨i, trimL S, Q.set i lo, HPUT.out, HRR2.out, by go_num, HW7.out.1, HW7.out.2⟩
                          case measure => simp [intOf]
end Go.Proofs.YtpjnglcojamfmaaDoor
namespace Go.Proofs.YtpjnglcojamfmaaDoor
open Go.ChangeShapes Go.WideShapes Go.ChangeAt Go.RowKit
set_option maxRecDepth 100000 in
set_option maxHeartbeats 400000 in
theorem l1Limbs_nil (B : Nat) (z : Value) (neg : Bool) (w : World) (h : IsZ B w z neg []) :
    Calls Tryd.prog 22 #[z] w fun e w' => e = .returned (.slice none 0 0) ∧ Below w.heap.size w w' := by
  obtain ⟨hok, htr, h⟩ := h
  rcases h with ⟨h2, _⟩ | ⟨_, rfl⟩
  · simp at h2
  · cases neg
    all_goals
      simp only [sg, val]
      go_enter Tryd.func22, Tryd.ntmps22
      go_wp2
      go_ret
      exact ⟨rfl, below_alloc _ _⟩
theorem l1Limbs_two (B : Nat) (z : Value) (neg : Bool) (t : List Nat) (w : World) (h : IsZ B w z neg t) (hB : B ≤ w.heap.size) :
    Calls Tryd.prog 22 #[z] w fun e w' => ∃ v, e = .returned v ∧ IsL B w' v t ∧ (t = [] → v = .slice none 0 0) ∧ Below w.heap.size w w' := by
  by_cases ht : t = []
  · subst ht
    refine (l1Limbs_nil B z neg w h).mono ?_
    rintro e w' ⟨rfl, hb⟩
    exact ⟨_, rfl, ⟨none, 0, rfl, Nat.le_refl _, (by unfold maxLen; omega), (fun x hx => by cases hx), .inl rfl⟩, fun _ => rfl, hb⟩
  · refine (l1Limbs_any B z neg t w h hB).mono ?_
    rintro e w' ⟨v, rfl, hv, hb⟩
    exact ⟨v, rfl, hv, fun h => absurd h ht, hb⟩
theorem l1Zero_ex (z0 : Int) (zn : Bool) (za : Option Addr) (zl zc : Nat) (w : World) :
    Calls Tryd.prog 23 #[.agg #[.int .i64 z0, .bool zn, .slice za zl zc]] w fun e w' => e = .returned (.bool (((zl : Int) == 0) && (z0 == 0))) ∧ Below w.heap.size w w' := by
  by_cases h : zl = 0
  · subst h
    go_enter Tryd.func23, Tryd.ntmps23
    go_wp2
    go_ret
    exact ⟨by simp, below_alloc _ _⟩
  · have z : ((zl : Int) == 0) = false := by rw [beq_eq_false_iff_ne]; omega
    go_enter Tryd.func23, Tryd.ntmps23
    go_wp2
    go_ret
    exact ⟨by simp [z], below_alloc _ _⟩
set_option maxRecDepth 100000 in
set_option maxHeartbeats 2000000 in
theorem l1DivD_nil (B : Nat) (vb : Value) (b : List Nat) (w : World) (hb : IsL B w vb b) (hlb : b.length ≤ 100000) (htb : isTrim b) (hne : b ≠ []) :
    Calls Tryd.prog 36 #[.slice none 0 0, vb] w fun e w' => ∃ v u Q U, e = .returned (.tuple #[v, u]) ∧ (IsL w.heap.size w' v Q ∧ IsL w.heap.size w' u U) ∧ val [] = val Q * val b + val U ∧ val U < val b ∧ Below w.heap.size w w' := by
  obtain ⟨i0, hinf, hz0, hz1, hz2⟩ := info_parts Tryd.info_u32
  obtain ⟨pb, cb, rfl, _, _, hbok, _⟩ := hb
  have HP : Hid (0 < val b) := val_pos b htb hne
  have hbp : 0 < b.length := by
    apply Nat.pos_of_ne_zero
    intro e
    exact hne (List.eq_nil_of_length_eq_zero e)
  by_cases h1 : b.length = 1
  all_goals
    go_enter Tryd.func36, Tryd.ntmps36
    go_wp2_with (at_make; refine wpList_make_full _ rfl _ _ 26 rfl w.heap.size 51 i0 (.int .u32 0) 1 Tryd.underlying26 hinf hz0 hz1 .i64 .i64 _ _ 0 rfl rfl (by first | rfl | omega) (by first | rfl | omega) (by first | omega | (rw [hz2]; omega)) (by unfold maxLen; omega) (Nat.le_refl _) ?_)
    intro w1 hown hgr
    have hB1 : Below w.heap.size w w1 := (Below.refl _ _).grown hgr (Nat.le_refl _) (fun k h => by cases h)
    have HB1 : Hid (Below w.heap.size w w1) := hB1
    clear hown hgr hB1
    go_wp2
    go_loopw [7, 9] (fun rv iv wr => rv = .slice none 0 0 ∧ iv = .int .i64 (-1) ∧ Below w.heap.size w wr) (fun _ _ _ => 0)
    case atStart => exact ⟨rfl, rfl, HB1.out⟩
    case round =>
      obtain ⟨rfl, rfl, hB⟩ := hrel
      have HB : Hid (Below w.heap.size w wr) := hB
      clear hB
      have HNIL : Hid (∀ W pp, IsL w.heap.size W (.slice pp 0 0) []) := fun W pp => ⟨pp, 0, rfl, Nat.le_refl _, (by unfold maxLen; omega), (fun x hx => by cases hx), .inl rfl⟩
      go_wp2
      go_ret2
      exact ⟨_, _, [], [], rfl, ⟨HNIL.out _ _, HNIL.out _ _⟩, by simp [val], HP.out, HB.out⟩
theorem l1DivD_any (B : Nat) (va vb : Value) (a b : List Nat) (w : World) (hBw : B ≤ w.heap.size) (hla : a.length ≤ 100000) (ha : IsL B w va a) (hnil : a = [] → va = .slice none 0 0) (hb : IsL B w vb b) (hlb : b.length ≤ 100000) (htb : isTrim b) (hne : b ≠ []) :
    Calls Tryd.prog 36 #[va, vb] w fun e w' => ∃ v u Q U, e = .returned (.tuple #[v, u]) ∧ (IsL w.heap.size w' v Q ∧ IsL w.heap.size w' u U) ∧ val a = val Q * val b + val U ∧ val U < val b ∧ Below w.heap.size w w' := by
  by_cases h : a = []
  · rw [hnil h, h]
    exact l1DivD_nil B vb b w hb hlb htb hne
  · obtain ⟨pa, ca, rfl, _, _, _, hr⟩ := id ha
    rcases hr with hr | ⟨ba, oa, rfl, _⟩
    · exact absurd hr h
    · exact l1DivD_some B ba oa ca vb a b w hBw hla ha h hb hlb htb hne
end Go.Proofs.YtpjnglcojamfmaaDoor

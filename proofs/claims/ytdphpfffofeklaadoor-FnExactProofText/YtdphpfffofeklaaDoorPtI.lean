import Derived.Test.YtdphpfffofeklaaDoorPtH
namespace Go.Proofs.YtdphpfffofeklaaDoor.P
open Go.ChangeShapes Go.WideShapes Go.ChangeAt Go.RowKit
open L (strOf strOf_toList strOf_size Tn hidG below_alloc Bx bx_new StrsAt TreeAt strsC strs_at row_below own_lower own_other' own_base up_alloc)
theorem heap_own {w : World} {base g n : Nat} {e : TypeId} {xs : List Value} (h : w.heap[g]? = some (.cells xs.toArray e (0, 0))) (hl : xs.length = n) (hb : base ≤ g) (hn : n ≤ 1000000) : w.ownsRow base e 1 (.slice (some ⟨g, 0, none⟩) n n) n xs :=
  ⟨by omega, .inr ⟨g, n, _, rfl, hb, h, Nat.le_refl _, by unfold maxLen; omega, by simp [hl], by rw [Nat.mul_one, ← hl]; simp⟩⟩
theorem snoc_leaf {M : List (List UInt8)} {k : Nat} (h : k < M.length) : strsC (leafB :: M.take (k + 1)) = strsC (leafB :: M.take k) ++ [.string (strOf M[k])] := by
  have e := snoc_strs h
  unfold strsC at e ⊢
  rw [List.map_cons, List.map_cons, e]
  rfl
theorem le_sum {l : List Nat} {x : Nat} (h : x ∈ l) : x ≤ l.sum := by
  induction l with
  | nil => cases h
  | cons y r ih =>
    rw [List.sum_cons]
    rcases List.mem_cons.1 h with rfl | h
    · omega
    · have := ih h; omega
theorem tn_bad {f : Tn} {j : Nat} (hc : ¬ 0 ≤ f.col) (hj : j < f.mu.length) (h : isI f.mu[j] = false) : tnOk f = false := by
  unfold tnOk
  split
  · rw [Bool.eq_false_iff]
    intro e
    have := List.all_eq_true.1 e _ (List.getElem_mem hj)
    rw [h] at this
    cases this
  · rw [decide_eq_false hc]; rfl
theorem tn_leaf {f : Tn} (hc : ¬ 0 ≤ f.col) (h : ∀ j (hj : j < f.mu.length), isI f.mu[j] = true) : tnOk f = isLf f := by
  unfold tnOk
  split
  · rename_i hl
    rw [hl, List.all_eq_true]
    intro x hx
    obtain ⟨j, hj, rfl⟩ := List.getElem_of_mem hx
    exact h j hj
  · rename_i hl
    rw [decide_eq_false hc]
    simpa using hl
theorem tnP_leaf {f : Tn} (h : isLf f = true) : (tnP f).2 = lsT (leafB :: f.mu.map sgnT) := by
  unfold tnP
  rw [if_pos h]
  show 40 :: (Lib.join ((nmP leafB :: f.mu.map inP).map Prod.snd) [32] ++ [41]) = _
  have e : (nmP leafB :: f.mu.map inP).map Prod.snd = leafB :: f.mu.map sgnT := by
    rw [List.map_cons, List.map_map]; rfl
  rw [e]
  rfl
set_option maxRecDepth 100000 in
set_option maxHeartbeats 8000000 in
theorem nodeText_leaf (f : Tn) (va : Value) (w : World) (h : StrsAt w va f.mu) (hf : TnB f) (hc : ¬ 0 ≤ f.col) :
    Calls Tryd.prog 44 #[.agg #[.int .i64 f.col, .string (strOf f.pl), va]] w fun e w' => ∃ s : List UInt8, e = .returned (.tuple #[.string (strOf s), .bool (tnOk f)]) ∧ (tnOk f = true → s = (tnP f).2) ∧ Below w.heap.size w w' := by
  obtain ⟨p, c, rfl, h1, h2, hA⟩ := h
  unfold maxLen at h2
  have HA := hidG hA
  have hwt : wtS f.mu ≤ 1048576 := by have := hf.2; unfold wtT at this; omega
  have hml : f.mu.length ≤ 1048576 := by unfold wtS at hwt; omega
  have HF := hidG hf
  have y : decide (0 ≤ f.col) = false := decide_eq_false hc
  obtain ⟨W1, hW1⟩ : ∃ W1, w.alloc (.cells #[.int .i64 f.col, .string (strOf f.pl), .slice p f.mu.length c] 65) = W1 := ⟨_, rfl⟩
  have HB1 : Hid (Below w.heap.size w W1) := by unfold Hid; rw [← hW1]; exact below_alloc _ _
  have HX1 : Hid (Bx W1 w.heap.size [.int .i64 f.col, .string (strOf f.pl), .slice p f.mu.length c]) := by unfold Hid; rw [← hW1]; exact bx_new w _ _
  have HZ1 : Hid (W1.heap.size = w.heap.size + 1) := by unfold Hid; rw [← hW1]; simp
  have HW1 := hidG hW1
  have HCL : Hid (∀ W, Below W1.heap.size W1 W → W.cell? ⟨w.heap.size, 0, none⟩ = some (.int .i64 f.col) ∧ W.cell? ⟨w.heap.size, 1, none⟩ = some (.string (strOf f.pl)) ∧ W.cell? ⟨w.heap.size, 2, none⟩ = some (.slice p f.mu.length c)) := fun W h => (HX1.out.below HX1.out.lt h).c3
  obtain ⟨b0, -, -⟩ := HX1.out.c3
  have hz1 := HZ1.out
  obtain ⟨W2, hW2⟩ : ∃ W2, W1.alloc (.cells #[.string ⟨#[108, 101, 97, 102]⟩] 9) = W2 := ⟨_, rfl⟩
  have HB2 : Hid (Below W1.heap.size W1 W2) := by unfold Hid; rw [← hW2]; exact below_alloc _ _
  have HW2 := hidG hW2
  have HO2 : Hid (W2.ownsRow W1.heap.size 9 1 (.slice (some ⟨W1.heap.size, 0, none⟩) 1 1) 1 (strsC [leafB])) := by
    unfold Hid
    rw [← hW2]
    exact heap_own (heap_alloc_new W1 _) rfl (Nat.le_refl _) (by omega)
  obtain ⟨-, -, d2⟩ := HCL.out _ HB2.out
  obtain ⟨M, hM⟩ : ∃ M, f.mu.map sgnT = M := ⟨_, rfl⟩
  have hML : M.length = f.mu.length := by rw [← hM, List.length_map]
  have HMA : Hid (∀ i (h : i < f.mu.length) (h' : i < M.length), M[i] = sgnT f.mu[i]) := by subst hM; intro i h h'; rw [List.getElem_map]
  have HM := hidG hM
  clear hA hM hW1 hW2 hf hz1
  go_enter Tryd.func44, Tryd.ntmps44
  go_wp2_with (first | rw [HW1.out] | rw [HW2.out])
  go_loopw [4, 31] (fun vt iv wr => ∃ i : Nat, i ≤ f.mu.length ∧ iv = .int .i64 (i : Nat) ∧ (∀ j (h : j < f.mu.length), j < i → isI f.mu[j] = true) ∧ wr.ownsRow W1.heap.size 9 1 vt (i + 1) (strsC (leafB :: M.take i)) ∧ Below W1.heap.size W1 wr) (fun _ iv _ => f.mu.length - (intOf iv).toNat)
  case atStart => exact ⟨0, Nat.zero_le _, rfl, fun j _ h => absurd h (Nat.not_lt_zero _), HO2.out, HB2.out⟩
  case round =>
    obtain ⟨i, hi, rfl, hp, hown, hB⟩ := hrel
    obtain ⟨pt, ct, rfl⟩ := own_sl hown
    have HO := hidG hown
    have HB := hidG hB
    have HP := hidG hp
    clear hp
    by_cases hlt : i < f.mu.length
    · obtain ⟨b, rfl, hb, hcc⟩ : ∃ b, p = some ⟨b, 0, none⟩ ∧ b < w.heap.size ∧ ∀ i (h : i < f.mu.length), w.cell? ⟨b, i, none⟩ = some (.string (strOf f.mu[i])) := by
        rcases HA.out with h | h
        · rw [h] at hlt; exact absurd hlt (Nat.not_lt_zero _)
        · exact h
      have k0 := hcc i hlt
      have hBw : Below w.heap.size w wr := HB1.out.trans (hB.mono HB1.out.size)
      rw [← hBw.cell (p := ⟨b, i, none⟩) hb] at k0
      have hxl : f.mu[i].length ≤ 1048576 := by
        have : f.mu[i].length ≤ (f.mu.map List.length).sum := le_sum (List.mem_map.2 ⟨_, List.getElem_mem hlt, rfl⟩)
        unfold wtS at hwt
        omega
      have HSN : Hid (strsC (leafB :: M.take (i + 1)) = strsC (leafB :: M.take i) ++ [.string (strOf (sgnT f.mu[i]))]) := by unfold Hid; rw [snoc_leaf (by omega), HMA.out i hlt (by omega)]
      obtain ⟨x, hx⟩ : ∃ x, f.mu[i] = x := ⟨_, rfl⟩
      rw [hx] at k0 hxl HSN
      have HX := hidG hx
      have hsz : (strOf x).size ≤ maxLen := by rw [strOf_size]; unfold maxLen; omega
      have HSZ := hidG hsz
      have HIB : Hid (isIntB (strOf x) = isI x) := rfl
      clear hcc hx hown hB hBw hsz
      cases hI : isI x with
      | false =>
        rw [hI] at HIB
        have HFF : Hid (tnOk f = false) := tn_bad (by omega) hlt (by rw [HX.out]; exact hI)
        go_wp2_with (go_at_call 57; refine (isInt_impl _ _ HSZ.out).mono ?_; rintro e w5 ⟨rfl, rfl⟩; rw [HIB.out])
        refine bodyPost_ret (v := .tuple #[.string ⟨#[]⟩, .bool false]) ?_ rfl ⟨[], (by rw [HFF.out]; rfl), (fun e => (by rw [HFF.out] at e; cases e)), HB1.out.trans (HB.out.mono HB1.out.size)⟩
        simp [results, Tryd.results44, go_sem]
      | true =>
        rw [hI] at HIB
        have HI := hidG hI
        clear hI
        go_wp2_with (first
          | (go_at_call 57; refine (isInt_impl _ _ HSZ.out).mono ?_; rintro e w5 ⟨rfl, rfl⟩; rw [HIB.out])
          | (go_at_call 41; refine (signedText_any x _ (by omega)).mono ?_; rintro e w2 ⟨rfl, rfl⟩)
          | (at_builtin; refine wpList_appS (t := strOf (sgnT x)) (n := i + 1) (base := W1.heap.size) (xs := strsC (leafB :: M.take i)) rfl _ _ rfl rfl ?own _ rfl ?hH ?hn ?hb ?_))
        case own => exact HO.out
        case hH => rfl
        case hn => omega
        case hb => exact HB.out.size
        intro g5 c5 w5 hown5 hgr5
        have HB5 : Hid (Below W1.heap.size W1 w5) := below_grown HB.out HO.out hgr5 HB.out.size
        have HO5 := hidG hown5
        rw [← HSN.out] at HO5
        clear hown5 hgr5
        go_wp2_with fail
        go_roundw
        case rel => exact ⟨i + 1, by omega, by go_num, fun j hj hji => by
          by_cases e : j = i
          · subst e; rw [HX.out]; exact HI.out
          · exact HP.out j hj (by omega), HO5.out, HB5.out⟩
        case measure => simp [intOf]; omega
    · have hie : i = f.mu.length := by omega
      subst hie
      have HOK : Hid (tnOk f = isLf f) := tn_leaf (by omega) (fun j hj => HP.out j hj hj)
      have hS : StrsAt wr (.slice pt (f.mu.length + 1) ct) (leafB :: f.mu.map sgnT) := by
        have ho := hown
        rw [List.take_of_length_le (by omega), ← HM.out] at ho
        refine strs_at (base := W1.heap.size) ?_
        rw [List.length_cons, List.length_map]
        exact ho
      have HS := hidG hS
      have hJ := leaf_join f f.mu.length
      rw [List.take_of_length_le (by simp)] at hJ
      have HJ : Hid ((Lib.join (leafB :: f.mu.map sgnT) [32]).length ≤ 140737488355328) := by
        have := HF.out.2
        unfold Hid
        omega
      have HBD : Hid (Below W1.heap.size W1 wr.drew) := HB.out.drew
      have HN : Hid ((leafB :: f.mu.map sgnT).length ≤ 140737488355328) := by
        unfold Hid
        rw [List.length_cons, List.length_map]
        omega
      clear hown hB hJ hS
      by_cases e1 : f.col = -1
      · have y1 : (f.col == -1) = true := by rw [beq_iff_eq]; exact e1
        by_cases e2 : f.pl = []
        · have y2 : (strOf f.pl).toList.isEmpty = true := by rw [ByteArray.toList_eq, strOf_toList, e2]; rfl
          have HLF : Hid (isLf f = true) := by unfold Hid isLf; rw [decide_eq_true e1, e2]; rfl
          clear e1 e2
          go_wp2_with fail
          refine wrh 12 rfl (S := fun W => W.cell? ⟨w.heap.size, 0, none⟩ = some (.int .i64 f.col) ∧ W.cell? ⟨w.heap.size, 1, none⟩ = some (.string (strOf f.pl)) ∧ W.cell? ⟨w.heap.size, 2, none⟩ = some (.slice p f.mu.length c)) (by kernel_rfl) (HCL.out _ HBD.out) (fun hHeld => ?_)
          refine tk 0 44 (v := ?_) rfl rfl (by kernel_rfl) (fun _ _ _ h => h) (Or.inl ⟨by rfl, ?_⟩) (by assumption) ?_
          rotate_left
          · (intro w hSw; (try dsimp only at hSw); go_simp; (try with_reducible rfl))
          try simp only [Act.put, List.setIfInBounds_toArray, List.set_cons_zero, List.set_cons_succ]
          refine tk 2 46 (v := ?_) rfl rfl (by kernel_rfl) (fun _ _ _ h => h) (Or.inl ⟨by rfl, ?_⟩) (by assumption) ?_
          rotate_left
          · (intro w hSw; (try dsimp only at hSw); go_simp; (try with_reducible rfl))
          try simp only [Act.put, List.setIfInBounds_toArray, List.set_cons_zero, List.set_cons_succ]
          refine tk 3 47 (v := ?_) rfl rfl (by kernel_rfl) (fun _ _ _ h => h) (Or.inl ⟨by rfl, ?_⟩) (by assumption) ?_
          rotate_left
          · (intro w hSw; (try dsimp only at hSw); go_simp; (try with_reducible rfl))
          try simp only [Act.put, List.setIfInBounds_toArray, List.set_cons_zero, List.set_cons_succ]
          refine tk 4 48 (v := ?_) rfl rfl (by kernel_rfl) (fun _ _ _ h => h) (Or.inl ⟨by rfl, ?_⟩) (by assumption) ?_
          rotate_left
          · (intro w hSw; (try dsimp only at hSw); go_simp; (try with_reducible rfl))
          try simp only [Act.put, List.setIfInBounds_toArray, List.set_cons_zero, List.set_cons_succ]
          refine wpAnyH_ready (rs := [1]) (by kernel_rfl) (by simp) ?_
          refine AllReadyH.cons rfl (fun K hK => ?_) AllReadyH.nil
          go_simp
          go_at_call 31
          refine (listText_any _ (leafB :: f.mu.map sgnT) _ (HS.out.below (Below.refl _ _).drew) HJ.out HN.out).mono ?_
          rintro e w4 ⟨rfl, hb4⟩
          have HB4 : Hid (Below W1.heap.size W1 w4) := HBD.out.trans (hb4.mono HBD.out.size)
          clear hb4
          go_wp2_with fail
          refine hK.out _ _ (HCL.out _ HB4.out) (fun hHeld => ?_)
          clear hK K
          try simp only [Act.put, List.setIfInBounds_toArray, List.set_cons_zero, List.set_cons_succ]
          refine tk 5 49 (v := ?_) rfl rfl (by kernel_rfl) (fun _ _ _ h => h) (Or.inl ⟨by rfl, ?_⟩) (by assumption) ?_
          rotate_left
          · (intro w hSw; (try dsimp only at hSw); go_simp; (try with_reducible rfl))
          try simp only [Act.put, List.setIfInBounds_toArray, List.set_cons_zero, List.set_cons_succ]
          refine tk 6 50 (v := ?_) rfl rfl (by kernel_rfl) (fun _ _ _ h => h) (Or.inl ⟨by rfl, ?_⟩) (by assumption) ?_
          rotate_left
          · (intro w hSw; (try dsimp only at hSw); go_simp; (try with_reducible rfl))
          try simp only [Act.put, List.setIfInBounds_toArray, List.set_cons_zero, List.set_cons_succ]
          refine tk 7 51 (v := ?_) rfl rfl (by kernel_rfl) (fun _ _ _ h => h) (Or.inl ⟨by rfl, ?_⟩) (by assumption) ?_
          rotate_left
          · (intro w hSw; (try dsimp only at hSw); go_simp; (try with_reducible rfl))
          try simp only [Act.put, List.setIfInBounds_toArray, List.set_cons_zero, List.set_cons_succ]
          refine tk 8 52 (v := ?_) rfl rfl (by kernel_rfl) (fun _ _ _ h => h) (Or.inl ⟨by rfl, ?_⟩) (by assumption) ?_
          rotate_left
          · (intro w hSw; (try dsimp only at hSw); go_simp; (try with_reducible rfl))
          try simp only [Act.put, List.setIfInBounds_toArray, List.set_cons_zero, List.set_cons_succ]
          refine tk 9 53 (v := ?_) rfl rfl (by kernel_rfl) (fun _ _ _ h => h) (Or.inl ⟨by rfl, ?_⟩) (by assumption) ?_
          rotate_left
          · (intro w hSw; (try dsimp only at hSw); go_simp; (try with_reducible rfl))
          try simp only [Act.put, List.setIfInBounds_toArray, List.set_cons_zero, List.set_cons_succ]
          refine tk 10 2 (v := ?_) rfl rfl (by kernel_rfl) (fun _ _ _ h => h) (Or.inl ⟨by rfl, ?_⟩) (by assumption) ?_
          rotate_left
          · (intro w hSw; (try dsimp only at hSw); go_simp; (try with_reducible rfl))
          try simp only [Act.put, List.setIfInBounds_toArray, List.set_cons_zero, List.set_cons_succ]
          refine tk 11 3 (v := ?_) rfl rfl (by kernel_rfl) (fun _ _ _ h => h) (Or.inl ⟨by rfl, ?_⟩) (by assumption) ?_
          rotate_left
          · (intro w hSw; (try dsimp only at hSw); go_simp; (try with_reducible rfl))
          try simp only [Act.put, List.setIfInBounds_toArray, List.set_cons_zero, List.set_cons_succ]
          refine wpAnyH_done (by kernel_rfl) ?_ _
          go_wp2_with fail
          refine bodyPost_ret (v := .tuple #[.string (strOf (lsT (leafB :: f.mu.map sgnT))), .bool true]) ?_ rfl ⟨lsT (leafB :: f.mu.map sgnT), (by rw [HOK.out, HLF.out]), fun _ => (tnP_leaf HLF.out).symm, HB1.out.trans (HB4.out.mono HB1.out.size)⟩
          simp [results, Tryd.results44, go_sem]
        · have y2 : (strOf f.pl).toList.isEmpty = false := by rw [ByteArray.toList_eq, strOf_toList]; simpa using e2
          have HLF : Hid (isLf f = false) := by unfold Hid isLf; rw [decide_eq_true e1, Bool.true_and]; simpa using e2
          clear e1 e2
          go_wp2_with fail
          refine wrh 12 rfl (S := fun W => W.cell? ⟨w.heap.size, 0, none⟩ = some (.int .i64 f.col) ∧ W.cell? ⟨w.heap.size, 1, none⟩ = some (.string (strOf f.pl)) ∧ W.cell? ⟨w.heap.size, 2, none⟩ = some (.slice p f.mu.length c)) (by kernel_rfl) (HCL.out _ HBD.out) (fun hHeld => ?_)
          refine tk 0 44 (v := ?_) rfl rfl (by kernel_rfl) (fun _ _ _ h => h) (Or.inl ⟨by rfl, ?_⟩) (by assumption) ?_
          rotate_left
          · (intro w hSw; (try dsimp only at hSw); go_simp; (try with_reducible rfl))
          try simp only [Act.put, List.setIfInBounds_toArray, List.set_cons_zero, List.set_cons_succ]
          refine tk 2 46 (v := ?_) rfl rfl (by kernel_rfl) (fun _ _ _ h => h) (Or.inl ⟨by rfl, ?_⟩) (by assumption) ?_
          rotate_left
          · (intro w hSw; (try dsimp only at hSw); go_simp; (try with_reducible rfl))
          try simp only [Act.put, List.setIfInBounds_toArray, List.set_cons_zero, List.set_cons_succ]
          refine tk 3 47 (v := ?_) rfl rfl (by kernel_rfl) (fun _ _ _ h => h) (Or.inl ⟨by rfl, ?_⟩) (by assumption) ?_
          rotate_left
          · (intro w hSw; (try dsimp only at hSw); go_simp; (try with_reducible rfl))
          try simp only [Act.put, List.setIfInBounds_toArray, List.set_cons_zero, List.set_cons_succ]
          refine tk 4 48 (v := ?_) rfl rfl (by kernel_rfl) (fun _ _ _ h => h) (Or.inl ⟨by rfl, ?_⟩) (by assumption) ?_
          rotate_left
          · (intro w hSw; (try dsimp only at hSw); go_simp; (try with_reducible rfl))
          try simp only [Act.put, List.setIfInBounds_toArray, List.set_cons_zero, List.set_cons_succ]
          refine wpAnyH_ready (rs := [1]) (by kernel_rfl) (by simp) ?_
          refine AllReadyH.cons rfl (fun K hK => ?_) AllReadyH.nil
          go_simp
          go_at_call 31
          refine (listText_any _ (leafB :: f.mu.map sgnT) _ (HS.out.below (Below.refl _ _).drew) HJ.out HN.out).mono ?_
          rintro e w4 ⟨rfl, hb4⟩
          have HB4 : Hid (Below W1.heap.size W1 w4) := HBD.out.trans (hb4.mono HBD.out.size)
          clear hb4
          go_wp2_with fail
          refine hK.out _ _ (HCL.out _ HB4.out) (fun hHeld => ?_)
          clear hK K
          try simp only [Act.put, List.setIfInBounds_toArray, List.set_cons_zero, List.set_cons_succ]
          refine tk 5 49 (v := ?_) rfl rfl (by kernel_rfl) (fun _ _ _ h => h) (Or.inl ⟨by rfl, ?_⟩) (by assumption) ?_
          rotate_left
          · (intro w hSw; (try dsimp only at hSw); go_simp; (try with_reducible rfl))
          try simp only [Act.put, List.setIfInBounds_toArray, List.set_cons_zero, List.set_cons_succ]
          refine tk 6 50 (v := ?_) rfl rfl (by kernel_rfl) (fun _ _ _ h => h) (Or.inl ⟨by rfl, ?_⟩) (by assumption) ?_
          rotate_left
          · (intro w hSw; (try dsimp only at hSw); go_simp; (try with_reducible rfl))
          try simp only [Act.put, List.setIfInBounds_toArray, List.set_cons_zero, List.set_cons_succ]
          refine tk 7 51 (v := ?_) rfl rfl (by kernel_rfl) (fun _ _ _ h => h) (Or.inl ⟨by rfl, ?_⟩) (by assumption) ?_
          rotate_left
          · (intro w hSw; (try dsimp only at hSw); go_simp; (try with_reducible rfl))
          try simp only [Act.put, List.setIfInBounds_toArray, List.set_cons_zero, List.set_cons_succ]
          refine tk 8 52 (v := ?_) rfl rfl (by kernel_rfl) (fun _ _ _ h => h) (Or.inl ⟨by rfl, ?_⟩) (by assumption) ?_
          rotate_left
          · (intro w hSw; (try dsimp only at hSw); go_simp; (try with_reducible rfl))
          try simp only [Act.put, List.setIfInBounds_toArray, List.set_cons_zero, List.set_cons_succ]
          refine tk 9 53 (v := ?_) rfl rfl (by kernel_rfl) (fun _ _ _ h => h) (Or.inl ⟨by rfl, ?_⟩) (by assumption) ?_
          rotate_left
          · (intro w hSw; (try dsimp only at hSw); go_simp; (try with_reducible rfl))
          try simp only [Act.put, List.setIfInBounds_toArray, List.set_cons_zero, List.set_cons_succ]
          refine tk 10 2 (v := ?_) rfl rfl (by kernel_rfl) (fun _ _ _ h => h) (Or.inl ⟨by rfl, ?_⟩) (by assumption) ?_
          rotate_left
          · (intro w hSw; (try dsimp only at hSw); go_simp; (try with_reducible rfl))
          try simp only [Act.put, List.setIfInBounds_toArray, List.set_cons_zero, List.set_cons_succ]
          refine tk 11 3 (v := ?_) rfl rfl (by kernel_rfl) (fun _ _ _ h => h) (Or.inl ⟨by rfl, ?_⟩) (by assumption) ?_
          rotate_left
          · (intro w hSw; (try dsimp only at hSw); go_simp; (try with_reducible rfl))
          try simp only [Act.put, List.setIfInBounds_toArray, List.set_cons_zero, List.set_cons_succ]
          refine wpAnyH_done (by kernel_rfl) ?_ _
          go_wp2_with fail
          refine bodyPost_ret (v := .tuple #[.string (strOf (lsT (leafB :: f.mu.map sgnT))), .bool false]) ?_ rfl ⟨lsT (leafB :: f.mu.map sgnT), (by rw [HOK.out, HLF.out]), (fun e => (by rw [HOK.out, HLF.out] at e; cases e)), HB1.out.trans (HB4.out.mono HB1.out.size)⟩
          simp [results, Tryd.results44, go_sem]
      · have y1 : (f.col == -1) = false := by rw [beq_eq_false_iff_ne]; exact e1
        have HLF : Hid (isLf f = false) := by unfold Hid isLf; rw [decide_eq_false e1]; rfl
        clear e1
        go_wp2_with fail
        refine wrh 12 rfl (S := fun W => W.cell? ⟨w.heap.size, 0, none⟩ = some (.int .i64 f.col) ∧ W.cell? ⟨w.heap.size, 1, none⟩ = some (.string (strOf f.pl)) ∧ W.cell? ⟨w.heap.size, 2, none⟩ = some (.slice p f.mu.length c)) (by kernel_rfl) (HCL.out _ HBD.out) (fun hHeld => ?_)
        refine tk 0 44 (v := ?_) rfl rfl (by kernel_rfl) (fun _ _ _ h => h) (Or.inl ⟨by rfl, ?_⟩) (by assumption) ?_
        rotate_left
        · (intro w hSw; (try dsimp only at hSw); go_simp; (try with_reducible rfl))
        try simp only [Act.put, List.setIfInBounds_toArray, List.set_cons_zero, List.set_cons_succ]
        refine tk 2 46 (v := ?_) rfl rfl (by kernel_rfl) (fun _ _ _ h => h) (Or.inl ⟨by rfl, ?_⟩) (by assumption) ?_
        rotate_left
        · (intro w hSw; (try dsimp only at hSw); go_simp; (try with_reducible rfl))
        try simp only [Act.put, List.setIfInBounds_toArray, List.set_cons_zero, List.set_cons_succ]
        refine tk 3 47 (v := ?_) rfl rfl (by kernel_rfl) (fun _ _ _ h => h) (Or.inl ⟨by rfl, ?_⟩) (by assumption) ?_
        rotate_left
        · (intro w hSw; (try dsimp only at hSw); go_simp; (try with_reducible rfl))
        try simp only [Act.put, List.setIfInBounds_toArray, List.set_cons_zero, List.set_cons_succ]
        refine tk 4 48 (v := ?_) rfl rfl (by kernel_rfl) (fun _ _ _ h => h) (Or.inl ⟨by rfl, ?_⟩) (by assumption) ?_
        rotate_left
        · (intro w hSw; (try dsimp only at hSw); go_simp; (try with_reducible rfl))
        try simp only [Act.put, List.setIfInBounds_toArray, List.set_cons_zero, List.set_cons_succ]
        refine wpAnyH_ready (rs := [1]) (by kernel_rfl) (by simp) ?_
        refine AllReadyH.cons rfl (fun K hK => ?_) AllReadyH.nil
        go_simp
        go_at_call 31
        refine (listText_any _ (leafB :: f.mu.map sgnT) _ (HS.out.below (Below.refl _ _).drew) HJ.out HN.out).mono ?_
        rintro e w4 ⟨rfl, hb4⟩
        have HB4 : Hid (Below W1.heap.size W1 w4) := HBD.out.trans (hb4.mono HBD.out.size)
        clear hb4
        go_wp2_with fail
        refine hK.out _ _ (HCL.out _ HB4.out) (fun hHeld => ?_)
        clear hK K
        try simp only [Act.put, List.setIfInBounds_toArray, List.set_cons_zero, List.set_cons_succ]
        refine tk 5 49 (v := ?_) rfl rfl (by kernel_rfl) (fun _ _ _ h => h) (Or.inl ⟨by rfl, ?_⟩) (by assumption) ?_
        rotate_left
        · (intro w hSw; (try dsimp only at hSw); go_simp; (try with_reducible rfl))
        try simp only [Act.put, List.setIfInBounds_toArray, List.set_cons_zero, List.set_cons_succ]
        refine tk 6 50 (v := undef) rfl rfl (by kernel_rfl) (fun _ _ _ h => h) (Or.inr ⟨by rfl, rfl⟩) (by assumption) ?_
        try simp only [Act.put, List.setIfInBounds_toArray, List.set_cons_zero, List.set_cons_succ]
        refine tk 7 51 (v := undef) rfl rfl (by kernel_rfl) (fun _ _ _ h => h) (Or.inr ⟨by rfl, rfl⟩) (by assumption) ?_
        try simp only [Act.put, List.setIfInBounds_toArray, List.set_cons_zero, List.set_cons_succ]
        refine tk 8 52 (v := undef) rfl rfl (by kernel_rfl) (fun _ _ _ h => h) (Or.inr ⟨by rfl, rfl⟩) (by assumption) ?_
        try simp only [Act.put, List.setIfInBounds_toArray, List.set_cons_zero, List.set_cons_succ]
        refine tk 9 53 (v := ?_) rfl rfl (by kernel_rfl) (fun _ _ _ h => h) (Or.inl ⟨by rfl, ?_⟩) (by assumption) ?_
        rotate_left
        · (intro w hSw; (try dsimp only at hSw); go_simp; (try with_reducible rfl))
        try simp only [Act.put, List.setIfInBounds_toArray, List.set_cons_zero, List.set_cons_succ]
        refine tk 10 2 (v := ?_) rfl rfl (by kernel_rfl) (fun _ _ _ h => h) (Or.inl ⟨by rfl, ?_⟩) (by assumption) ?_
        rotate_left
        · (intro w hSw; (try dsimp only at hSw); go_simp; (try with_reducible rfl))
        try simp only [Act.put, List.setIfInBounds_toArray, List.set_cons_zero, List.set_cons_succ]
        refine tk 11 3 (v := ?_) rfl rfl (by kernel_rfl) (fun _ _ _ h => h) (Or.inl ⟨by rfl, ?_⟩) (by assumption) ?_
        rotate_left
        · (intro w hSw; (try dsimp only at hSw); go_simp; (try with_reducible rfl))
        try simp only [Act.put, List.setIfInBounds_toArray, List.set_cons_zero, List.set_cons_succ]
        refine wpAnyH_done (by kernel_rfl) ?_ _
        go_wp2_with fail
        refine bodyPost_ret (v := .tuple #[.string (strOf (lsT (leafB :: f.mu.map sgnT))), .bool false]) ?_ rfl ⟨lsT (leafB :: f.mu.map sgnT), (by rw [HOK.out, HLF.out]), (fun e => (by rw [HOK.out, HLF.out] at e; cases e)), HB1.out.trans (HB4.out.mono HB1.out.size)⟩
        simp [results, Tryd.results44, go_sem]
end Go.Proofs.YtdphpfffofeklaaDoor.P

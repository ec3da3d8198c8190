import Derived.Test.YtdphpfffofeklaaDoorPtF
namespace Go.Proofs.YtdphpfffofeklaaDoor.P
open Go.ChangeShapes Go.WideShapes Go.ChangeAt Go.RowKit
open L (strOf strOf_toList strOf_size Tn hidG below_alloc Bx bx_new StrsAt TreeAt strsC strs_at row_below own_lower own_other')
theorem join_le (ts : List (List UInt8)) : (Lib.join ts [32]).length ≤ (ts.map List.length).sum + ts.length := by
  cases ts with
  | nil => simp [Lib.join_nil]
  | cons x r =>
    rw [Lib.join_cons]
    simp only [List.map_cons, List.sum_cons, List.length_append, List.length_cons]
    have : (Lib.joinTail [32] r).length = (r.map List.length).sum + r.length := by
      induction r with
      | nil => rfl
      | cons y r ih =>
        have e : Lib.joinTail [32] (y :: r) = 32 :: (y ++ Lib.joinTail [32] r) := rfl
        rw [e]
        simp only [List.map_cons, List.sum_cons, List.length_cons, List.length_append, ih]
        omega
    omega
theorem sgnT_len (s : List UInt8) : (sgnT s).length ≤ s.length + 4 := by
  unfold sgnT
  split
  · simp
  · omega
theorem sgn_map_sum {α : Type} (f : α → List UInt8) (g : α → Nat) (L : List α) (h : ∀ x ∈ L, (f x).length ≤ g x) : ((L.map f).map List.length).sum ≤ (L.map g).sum := by
  induction L with
  | nil => exact Nat.le_refl _
  | cons x r ih =>
    simp only [List.map_cons, List.sum_cons]
    have := h x (by simp)
    have := ih (fun y hy => h y (by simp [hy]))
    omega
theorem sum_const {α : Type} (k : Nat) (L : List α) : (L.map (fun _ => k)).sum = k * L.length := by
  induction L with
  | nil => rfl
  | cons x r ih => simp only [List.map_cons, List.sum_cons, ih, List.length_cons, Nat.mul_succ]; omega
theorem sum_lin {α : Type} (g : α → Nat) (a b : Nat) (L : List α) : (L.map (fun x => a * g x + b)).sum = a * (L.map g).sum + b * L.length := by
  induction L with
  | nil => rfl
  | cons x r ih => simp only [List.map_cons, List.sum_cons, ih, List.length_cons, Nat.mul_succ, Nat.mul_add]; omega
theorem lsT_len (ts : List (List UInt8)) : (lsT ts).length ≤ (ts.map List.length).sum + ts.length + 2 := by
  have := join_le ts
  unfold lsT
  simp only [List.length_cons, List.length_append, List.length_nil]
  omega
theorem lits_join {L : List Int} (hr : ∀ x ∈ L, r64 x) : (Lib.join (L.map (fun n => sgnT (Lib.itoa n))) [32]).length ≤ 26 * L.length := by
  have h1 := join_le (L.map (fun n => sgnT (Lib.itoa n)))
  have h2 := sgn_map_sum (fun n => sgnT (Lib.itoa n)) (fun _ => 25) L (fun x hx => by
    have := sgnT_len (Lib.itoa x)
    have := (itoa_isI x (hr x hx).1 (hr x hx).2).2.1
    omega)
  rw [sum_const] at h2
  rw [List.length_map] at h1
  omega
def TnB (f : Tn) : Prop := r64 f.col ∧ wtT f ≤ 1048576
theorem leaf_join (f : Tn) (k : Nat) : (Lib.join (leafB :: (f.mu.map sgnT).take k) [32]).length ≤ 6 * wtT f + 10 := by
  have h1 := join_le (leafB :: (f.mu.map sgnT).take k)
  have h2 := sgn_map_sum sgnT (fun m => 1 * m.length + 4) f.mu (fun x _ => by have := sgnT_len x; omega)
  rw [sum_lin] at h2
  have h3 : (((f.mu.map sgnT).take k).map List.length).sum ≤ ((f.mu.map sgnT).map List.length).sum := by
    conv => rhs; rw [← List.take_append_drop k (f.mu.map sgnT)]
    rw [List.map_append, List.sum_append]
    omega
  have h4 : ((f.mu.map sgnT).take k).length ≤ f.mu.length := by rw [List.length_take, List.length_map]; omega
  simp only [List.map_cons, List.sum_cons, List.length_cons] at h1
  have h5 : leafB.length = 4 := rfl
  unfold wtT wtS
  have e : f.mu.map (fun m => m.length) = f.mu.map List.length := rfl
  rw [e] at h2
  omega
theorem tnP_len {f : Tn} (h : TnB f) : (tnP f).2.length ≤ 6 * wtT f + 64 := by
  unfold tnP
  split
  · have h1 := leaf_join f f.mu.length
    rw [List.take_of_length_le (by simp)] at h1
    show (40 :: (Lib.join ((nmP leafB :: f.mu.map inP).map Prod.snd) [32] ++ [41])).length ≤ _
    have e : (nmP leafB :: f.mu.map inP).map Prod.snd = leafB :: f.mu.map sgnT := by
      rw [List.map_cons, List.map_map]; rfl
    rw [e]
    simp only [List.length_cons, List.length_append, List.length_nil]
    omega
  · have h1 := join_le [branchB, sgnT (Lib.itoa f.col), sgnT f.pl]
    have h2 := sgnT_len (Lib.itoa f.col)
    have h3 := sgnT_len f.pl
    have h4 := (itoa_isI f.col h.1.1 h.1.2).2.1
    show (40 :: (Lib.join [branchB, sgnT (Lib.itoa f.col), sgnT f.pl] [32] ++ [41])).length ≤ _
    have h5 : branchB.length = 6 := rfl
    simp only [List.map_cons, List.map_nil, List.sum_cons, List.sum_nil, List.length_cons, List.length_append, List.length_nil] at h1 ⊢
    unfold wtT
    omega
theorem itoa_pos {n : Int} (h0 : 0 ≤ n) (h1 : n ≤ 9223372036854775807) : sgnT (Lib.itoa n) = Lib.itoa n := by
  have := (itoa_isI n (by omega) h1).2.2
  unfold sgnT
  rw [this, decide_eq_false (by omega)]
  rfl
set_option maxRecDepth 100000 in
set_option maxHeartbeats 4000000 in
theorem numberTexts_any (v : Value) (L : List Int) (w : World) (h : IntsAt w v L) (hr : ∀ x ∈ L, r64 x) (hn : L.length ≤ 1048576) (ht : Tb w) :
    Calls Tryd.prog 29 #[v] w fun e w' => ∃ sv ok, e = .returned (.tuple #[sv, .bool ok]) ∧ (ok = L.all (fun n => decide (0 ≤ n))) ∧ (∃ p n c, sv = .slice p n c) ∧ StrsAt w' sv (if ok then L.map (fun n => sgnT (Lib.itoa n)) else []) ∧ Below w.heap.size w w' := by
  have H := hidG h
  have HR := hidG hr
  have HT := hidG ht
  obtain ⟨p, c, rfl, h1, h2, hA⟩ := h
  unfold maxLen at h2
  have HA := hidG hA
  obtain ⟨M, hM⟩ : ∃ M, L.map (fun n => sgnT (Lib.itoa n)) = M := ⟨_, rfl⟩
  have hML : M.length = L.length := by rw [← hM, List.length_map]
  have HMA : Hid (∀ i (h : i < L.length) (h' : i < M.length), M[i] = sgnT (Lib.itoa L[i])) := by subst hM; intro i h h'; rw [List.getElem_map]
  rw [hM]
  clear hA hr ht hM
  go_enter Tryd.func29, Tryd.ntmps29
  go_wp2_with fail
  go_loopw [2, 8] (fun vt iv wr => ∃ i : Nat, i ≤ L.length ∧ iv = .int .i64 (i : Nat) ∧ (∀ j (h : j < L.length), j < i → 0 ≤ L[j]) ∧ wr.ownsRow w.heap.size 9 1 vt i (strsC (M.take i)) ∧ Below w.heap.size w wr) (fun _ iv _ => L.length - (intOf iv).toNat)
  case atStart => exact ⟨0, Nat.zero_le _, rfl, fun j _ h => absurd h (Nat.not_lt_zero _), World.ownsRow_nil _ _ _ _, Below.refl _ _⟩
  case round =>
    obtain ⟨i, hi, rfl, hp, hown, hB⟩ := hrel
    obtain ⟨pt, ct, rfl⟩ := own_sl hown
    have HO := hidG hown
    have HB := hidG hB
    have HP := hidG hp
    clear hp
    by_cases hlt : i < L.length
    · obtain ⟨b, rfl, hb, hc⟩ : ∃ b, p = some ⟨b, 0, none⟩ ∧ b < w.heap.size ∧ ∀ i (h : i < L.length), w.cell? ⟨b, i, none⟩ = some (.int .i64 L[i]) := by
        rcases HA.out with h | h
        · rw [h] at hlt; exact absurd hlt (Nat.not_lt_zero _)
        · exact h
      have k0 := hc i hlt
      rw [← hB.cell (p := ⟨b, i, none⟩) hb] at k0
      have hx0 := HR.out _ (List.getElem_mem hlt)
      have HSN : Hid (strsC (M.take (i + 1)) = strsC (M.take i) ++ [.string (strOf (sgnT (Lib.itoa L[i])))]) := by unfold Hid; rw [snoc_strs (by omega), HMA.out i hlt (by omega)]
      obtain ⟨x, hx⟩ : ∃ x, L[i] = x := ⟨_, rfl⟩
      rw [hx] at k0 hx0 HSN
      have HX := hidG hx
      have HX0 := hidG hx0
      clear hc hx hown hB hx0
      by_cases hneg : x < 0
      · have y : decide (x < 0) = true := decide_eq_true hneg
        have HF : Hid (false = L.all (fun n => decide (0 ≤ n))) := by
          unfold Hid
          symm
          rw [Bool.eq_false_iff]
          intro h
          have := List.all_eq_true.1 h _ (List.getElem_mem hlt)
          rw [HX.out] at this
          have := of_decide_eq_true this
          omega
        go_wp2_with fail
        refine bodyPost_ret (v := .tuple #[.slice none 0 0, .bool false]) ?_ rfl ⟨_, false, rfl, HF.out, ⟨_, _, _, rfl⟩, ⟨none, 0, rfl, Nat.le_refl _, by unfold maxLen; omega, .inl rfl⟩, HB.out⟩
        simp [results, Tryd.results29, go_sem]
      · have y : decide (x < 0) = false := decide_eq_false hneg
        have HPX : Hid (sgnT (Lib.itoa x) = Lib.itoa x) := itoa_pos (by omega) HX0.out.2
        go_wp2_with (first
          | (go_at_call 42; refine (itoa_any x _ HX0.out.1 HX0.out.2 (HT.out.below HB.out)).mono ?_; rintro e w1 ⟨rfl, hb1⟩; have HB1 : Hid (Below w.heap.size w w1) := HB.out.trans (hb1.mono HB.out.size); have HO1 := hidG (row_below HO.out hb1); clear hb1)
          | (at_builtin; refine wpList_appS (t := strOf (Lib.itoa x)) (n := i) (base := w.heap.size) (xs := strsC (M.take i)) rfl _ _ rfl rfl ?own _ rfl ?hH ?hn ?hb ?_))
        case own => exact HO1.out
        case hH => rfl
        case hn => omega
        case hb => exact HB1.out.size
        intro g5 c5 w5 hown5 hgr5
        have HB5 : Hid (Below w.heap.size w w5) := below_grown HB1.out HO1.out hgr5 HB1.out.size
        have HO5 := hidG hown5
        rw [← HPX.out, ← HSN.out] at HO5
        clear hown5 hgr5
        go_wp2_with fail
        go_roundw
        case rel => exact ⟨i + 1, by omega, by go_num, fun j hj hji => by
          by_cases e : j = i
          · subst e; rw [HX.out]; omega
          · exact HP.out j hj (by omega), HO5.out, HB5.out⟩
        case measure => simp [intOf]; omega
    · have hie : i = L.length := by omega
      subst hie
      clear hown hB
      have HF : Hid (true = L.all (fun n => decide (0 ≤ n))) := by
        unfold Hid
        symm
        rw [List.all_eq_true]
        intro x hx
        obtain ⟨j, hj, rfl⟩ := List.getElem_of_mem hx
        exact decide_eq_true (HP.out j hj hj)
      go_wp2_with fail
      have ho := HO.out
      rw [List.take_of_length_le (by omega)] at ho
      refine bodyPost_ret (v := .tuple #[.slice pt L.length ct, .bool true]) ?_ rfl ⟨_, true, rfl, HF.out, ⟨_, _, _, rfl⟩, strs_at (by simp only [if_true]; rw [hML]; exact ho), HB.out⟩
      simp [results, Tryd.results29, go_sem]
end Go.Proofs.YtdphpfffofeklaaDoor.P

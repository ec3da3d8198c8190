import Derived.Test.YtknfmkeipeikkaaGreatDoorTtR
import Derived.Laws.OwnMore
import Derived.Deep.DeepCutAuto
import Derived.Deep.CutBlock
namespace Go.Proofs.YtknfmkeipeikkaaGreatDoor.L
open Go.ChangeShapes Go.WideShapes Go.ChangeAt Go.RowKit
theorem cellsR_set : ∀ (F : List Lr) (A : List Value) (i : Nat) (f : Lr) (a : Value), A.length = F.length → i < F.length → cellsR (F.set i f) (A.set i a) = (((cellsR F A).set (i * 3) a).set (i * 3 + 1) (.bool f.st)).set (i * 3 + 2) (.string (strOf f.bd))
  | [], _, _, _, _, _, h => absurd h (Nat.not_lt_zero _)
  | _ :: _, [], _, _, _, h, _ => by simp at h
  | _ :: _, _ :: _, 0, _, _, _, _ => rfl
  | _ :: F, _ :: A, i + 1, f, a, h, hi => by
    have := cellsR_set F A i f a (by simpa using h) (by simpa using hi)
    simp only [List.set_cons_succ, cellsR, this, show (i + 1) * 3 = i * 3 + 1 + 1 + 1 by omega, show i * 3 + 1 + 1 + 1 + 1 = (i * 3 + 1) + 1 + 1 + 1 by omega, show i * 3 + 1 + 1 + 1 + 2 = (i * 3 + 2) + 1 + 1 + 1 by omega]
/-- Rows that are one's own, but for one. -/
structure OutI (i base : Nat) (W : World) (v : Value) (F : List Lr) (A : List Value) : Prop where
  len : A.length = F.length
  own : W.ownsRow base 38 3 v F.length (cellsR F A)
  rows : ∀ j (h : j < A.length) (h' : j < F.length), j ≠ i → W.ownsRow base 9 1 A[j] F[j].cs.length (strsC F[j].cs)
  apart : ∀ j k (hj : j < A.length) (hk : k < A.length), j < k → ∀ b, A[j].ownBlock = some b → A[k].ownBlock ≠ some b
theorem OutR.toI {i base : Nat} {W : World} {v : Value} {F : List Lr} {A : List Value} (h : OutR base W v F A) : OutI i base W v F A := ⟨h.len, h.own, fun j hj hj' _ => h.rows j hj hj', h.apart⟩
theorem OutR.cell0 {base : Nat} {W : World} {F : List Lr} {A : List Value} {gv c : Nat} (h : OutR base W (.slice (some ⟨gv, 0, none⟩) F.length c) F A) {i : Nat} (hi : i < A.length) : W.cell? ⟨gv, i * 3, none⟩ = some A[i] := own_read h.own (cellsR_at F A i (by rw [← h.len]; exact hi) hi).1
theorem OutI.keep {i base : Nat} {W W' : World} {v : Value} {F : List Lr} {A : List Value} (h : OutI i base W v F A) (hk : ∀ b, (v.ownBlock = some b ∨ ∃ j, ∃ _ : j < A.length, j ≠ i ∧ A[j].ownBlock = some b) → W'.heap[b]? = W.heap[b]?) : OutI i base W' v F A :=
  ⟨h.len, own_other' h.own (fun b hb => hk b (.inl hb)), fun j hj hj' hji => own_other' (h.rows j hj hj' hji) (fun b hb => hk b (.inr ⟨j, hj, hji, hb⟩)), h.apart⟩
theorem OutI.cells3 {i base : Nat} {W : World} {F : List Lr} {A : List Value} {gv c : Nat} (h : OutI i base W (.slice (some ⟨gv, 0, none⟩) F.length c) F A) (hi : i < F.length) : W.cell? ⟨gv, i * 3, none⟩ = some (A[i]'(by rw [h.len]; exact hi)) ∧ W.cell? ⟨gv, i * 3 + 1, none⟩ = some (.bool F[i].st) ∧ W.cell? ⟨gv, i * 3 + 2, none⟩ = some (.string (strOf F[i].bd)) := by
  obtain ⟨c0, c1, c2⟩ := cellsR_at F A i hi (by rw [h.len]; exact hi)
  exact ⟨own_read h.own c0, own_read h.own c1, own_read h.own c2⟩
/-- A row is put in another's place. -/
theorem OutI.put {i base : Nat} {W : World} {F : List Lr} {A : List Value} {gv c : Nat} (h : OutI i base W (.slice (some ⟨gv, 0, none⟩) F.length c) F A) (hi : i < F.length) {f : Lr} {va : Value} (hva : W.ownsRow base 9 1 va f.cs.length (strsC f.cs)) (hne : ∀ b, va.ownBlock = some b → ∀ j (_ : j < A.length), j ≠ i → A[j].ownBlock ≠ some b) : OutR base (((W.setCell ⟨gv, i * 3, none⟩ va).setCell ⟨gv, i * 3 + 1, none⟩ (.bool f.st)).setCell ⟨gv, i * 3 + 2, none⟩ (.string (strOf f.bd))) (.slice (some ⟨gv, 0, none⟩) F.length c) (F.set i f) (A.set i va) := by
  have hse : 9 ≠ 38 := by decide
  have keep : ∀ b, b ≠ gv → (((W.setCell ⟨gv, i * 3, none⟩ va).setCell ⟨gv, i * 3 + 1, none⟩ (.bool f.st)).setCell ⟨gv, i * 3 + 2, none⟩ (.string (strOf f.bd))).heap[b]? = W.heap[b]? := fun b hb => by
    rw [Below.heap_setCell _ ⟨gv, i * 3 + 2, none⟩ _ _ hb, Below.heap_setCell _ ⟨gv, i * 3 + 1, none⟩ _ _ hb, Below.heap_setCell _ ⟨gv, i * 3, none⟩ _ _ hb]
  have keepS : ∀ a L, W.ownsRow base 9 1 a L.length (strsC L) → (((W.setCell ⟨gv, i * 3, none⟩ va).setCell ⟨gv, i * 3 + 1, none⟩ (.bool f.st)).setCell ⟨gv, i * 3 + 2, none⟩ (.string (strOf f.bd))).ownsRow base 9 1 a L.length (strsC L) := fun a L ha => own_other' ha (fun g hg => keep g (fun e => own_ne ha h.own hse hg (by rw [e]; rfl)))
  refine ⟨by simp [h.len], ?_, fun j hj hj' => ?_, fun j k hj hk hjk b hb => ?_⟩
  · rw [cellsR_set F A i f va h.len hi, List.length_set]
    exact (((h.own.stored (i * 3) va).1.stored (i * 3 + 1) (.bool f.st)).1.stored (i * 3 + 2) (.string (strOf f.bd))).1
  · have hj2 : j < A.length := by simpa using hj
    have hj3 : j < F.length := by simpa using hj'
    by_cases e : j = i
    · subst e
      simp only [List.getElem_set_self]
      exact keepS _ _ hva
    · rw [List.getElem_set_ne (fun e' => e e'.symm), List.getElem_set_ne (fun e' => e e'.symm)]
      exact keepS _ _ (h.rows j hj2 hj3 e)
  · have hj2 : j < A.length := by simpa using hj
    have hk2 : k < A.length := by simpa using hk
    by_cases e : j = i
    · subst e
      rw [List.getElem_set_self] at hb
      rw [List.getElem_set_ne (by omega)]
      exact hne b hb k hk2 (by omega)
    · rw [List.getElem_set_ne (fun e' => e e'.symm)] at hb
      by_cases e2 : k = i
      · subst e2
        rw [List.getElem_set_self]
        intro hv
        exact hne b hv j hj2 e hb
      · rw [List.getElem_set_ne (fun e' => e2 e'.symm)]
        exact h.apart j k hj2 hk2 hjk b hb
/-- A drawn row's texts. -/
def FineR (f : Lr) : Prop := f.cs.length ≤ 21 ∧ (∀ s ∈ f.cs, s.length ≤ 60) ∧ f.bd.length ≤ 60 ∧ ShortR f
def OddP (g N k base : Nat) (w : World) (v : Value) (n : Nat) (e : Ending) (w' : World) : Prop := ∃ (F : List Lr) (A : List Value) (k' : Nat), e = .returned v ∧ OutR base w' v F A ∧ F.length = n ∧ (∀ f ∈ F, FineR f) ∧ k' ≤ k + 200 ∧ IsCur g N w' k' ∧ Below g w w'
/-- The row that is being spoiled. -/
structure Od (g N k base : Nat) (w : World) (v : Value) (F : List Lr) (A : List Value) (i bx : Nat) (st : Bool) (bd : List UInt8) (va : Value) (W : World) : Prop where
  box : Bx W bx [va, .bool st, .string (strOf bd)]
  out : OutI i base W v F A
  cur : IsCur g N W k
  bel : Below g w W
  bxv : v.ownBlock ≠ some bx
  bxA : ∀ j (_ : j < A.length), j ≠ i → A[j].ownBlock ≠ some bx
/-- Its Coefs. -/
structure OdV (base : Nat) (A : List Value) (i bx : Nat) (va : Value) (cs : List (List UInt8)) (W : World) : Prop where
  row : W.ownsRow base 9 1 va cs.length (strsC cs)
  ne : ∀ b, va.ownBlock = some b → ∀ j (_ : j < A.length), j ≠ i → A[j].ownBlock ≠ some b
  nbx : va.ownBlock ≠ some bx
theorem bx_same {W W' : World} {b : Nat} {l : List Value} (h : Bx W b l) (hk : W'.heap[b]? = W.heap[b]?) : Bx W' b l := by
  obtain ⟨t, h⟩ := h
  exact ⟨t, hk.trans h⟩
theorem Od.gen {g N k k' base : Nat} {w : World} {v : Value} {F : List Lr} {A : List Value} {i bx : Nat} {st : Bool} {bd : List UInt8} {va : Value} {W W' : World} (h : Od g N k base w v F A i bx st bd va W) (hk : ∀ b, (b = bx ∨ v.ownBlock = some b ∨ ∃ j, ∃ _ : j < A.length, j ≠ i ∧ A[j].ownBlock = some b) → W'.heap[b]? = W.heap[b]?) (hc : IsCur g N W' k') (hb : Below g w W') : Od g N k' base w v F A i bx st bd va W' :=
  ⟨bx_same h.box (hk bx (.inl rfl)), h.out.keep (fun b hb => hk b (.inr hb)), hc, hb, h.bxv, h.bxA⟩
theorem Od.lt {g N k base : Nat} {w : World} {v : Value} {F : List Lr} {A : List Value} {i bx : Nat} {st : Bool} {bd : List UInt8} {va : Value} {W : World} (h : Od g N k base w v F A i bx st bd va W) (hbx : base ≤ bx) (b : Nat) (hb : b = bx ∨ v.ownBlock = some b ∨ ∃ j, ∃ _ : j < A.length, j ≠ i ∧ A[j].ownBlock = some b) : base ≤ b ∧ b < W.heap.size := by
  rcases hb with rfl | hb | ⟨j, hj, hji, hb⟩
  · exact ⟨hbx, h.box.lt⟩
  · exact h.out.own.lt b hb
  · exact (h.out.rows j hj (by rw [← h.out.len]; exact hj) hji).lt b hb
theorem Od.step {g N k k' base : Nat} {w : World} {v : Value} {F : List Lr} {A : List Value} {i bx : Nat} {st : Bool} {bd : List UInt8} {va : Value} {W W' : World} (h : Od g N k base w v F A i bx st bd va W) (hb : Bar g W W') (hc : IsCur g N W' k') (hbx : base ≤ bx) (hgb : g < base) : Od g N k' base w v F A i bx st bd va W' :=
  h.gen (fun b e => by have h1 := h.lt hbx b e; exact hb.block b h1.2 (by omega)) hc (h.bel.trans (hb.below (Nat.le_refl _) (Nat.le_of_lt (Nat.lt_of_lt_of_le h.cur.1 h.cur.2.1))))
theorem Od.down {g N k base : Nat} {w : World} {v : Value} {F : List Lr} {A : List Value} {i bx : Nat} {st : Bool} {bd : List UInt8} {va : Value} {W W' : World} (h : Od g N k base w v F A i bx st bd va W) (hb : Below W.heap.size W W') (hbx : base ≤ bx) (hgb : g < base) : Od g N k base w v F A i bx st bd va W' :=
  h.step (Bar.of hb) (h.cur.below (hb.mono h.cur.2.1)) hbx hgb
theorem OdV.bar {g base : Nat} {A : List Value} {i bx : Nat} {va : Value} {cs : List (List UInt8)} {W W' : World} (h : OdV base A i bx va cs W) (hb : Bar g W W') (hgb : g < base) : OdV base A i bx va cs W' := ⟨own_bar h.row hb hgb, h.ne, h.nbx⟩
/-- A cell of the box is turned. -/
theorem Od.set {g N k base : Nat} {w : World} {v : Value} {F : List Lr} {A : List Value} {i bx : Nat} {st : Bool} {bd : List UInt8} {va : Value} {W : World} (h : Od g N k base w v F A i bx st bd va W) (hbx : base ≤ bx) (hgb : g < base) (hNb : N ≤ base) (j : Nat) (u : Value) {va' : Value} {bd' : List UInt8} (hl : [va, .bool st, .string (strOf bd)].set j u = [va', .bool st, .string (strOf bd')]) : Od g N k base w v F A i bx st bd' va' (W.setCell ⟨bx, j, none⟩ u) := by
  have hk : ∀ b, b ≠ bx → (W.setCell ⟨bx, j, none⟩ u).heap[b]? = W.heap[b]? := fun b hb => Below.heap_setCell _ ⟨bx, j, none⟩ _ _ hb
  refine ⟨?_, h.out.keep (fun b e => hk b ?_), h.cur.below ((Below.refl N W).setCell (p := ⟨bx, j, none⟩) (by show N ≤ bx; omega) _), h.bel.setCell (p := ⟨bx, j, none⟩) (by show g ≤ bx; omega) _, h.bxv, h.bxA⟩
  · rw [← hl]
    exact h.box.set j u
  · rintro rfl
    rcases e with e | ⟨m, hm, hmi, e⟩
    · exact h.bxv e
    · exact h.bxA m hm hmi e
theorem OdV.set {base : Nat} {A : List Value} {i bx : Nat} {va : Value} {cs : List (List UInt8)} {W : World} (h : OdV base A i bx va cs W) (j : Nat) (u : Value) : OdV base A i bx va cs (W.setCell ⟨bx, j, none⟩ u) :=
  ⟨own_other' h.row (fun b hb => Below.heap_setCell _ ⟨bx, j, none⟩ _ _ (fun e => h.nbx (by rw [hb]; exact congrArg some e))), h.ne, h.nbx⟩
/-- The end: the row is put in its place. -/
theorem Od.fin {g N k k0 base n cv gv : Nat} {w : World} {F : List Lr} {A : List Value} {i bx : Nat} {f : Lr} {va : Value} {W : World} (h : Od g N k base w (.slice (some ⟨gv, 0, none⟩) F.length cv) F A i bx f.st f.bd va W) (hv : OdV base A i bx va f.cs W) (hi : i < F.length) (hn : F.length = n) (hgb : g < base) (hNb : N ≤ base) (hk : k ≤ k0 + 200) (hT : ∀ f ∈ F, f.cs.length ≤ 20 ∧ (∀ s ∈ f.cs, s.length ≤ 30) ∧ f.bd.length ≤ 30) (hf : FineR f) : OddP g N k0 base w (.slice (some ⟨gv, 0, none⟩) F.length cv) n (.returned (.slice (some ⟨gv, 0, none⟩) F.length cv)) (((W.setCell ⟨gv, i * 3, none⟩ va).setCell ⟨gv, i * 3 + 1, none⟩ (.bool f.st)).setCell ⟨gv, i * 3 + 2, none⟩ (.string (strOf f.bd))) := by
  have hgv : base ≤ gv := (h.out.own.lt gv rfl).1
  have hb : ∀ M, M ≤ base → Below M W (((W.setCell ⟨gv, i * 3, none⟩ va).setCell ⟨gv, i * 3 + 1, none⟩ (.bool f.st)).setCell ⟨gv, i * 3 + 2, none⟩ (.string (strOf f.bd))) := fun M hM =>
    (((Below.refl M W).setCell (p := ⟨gv, i * 3, none⟩) (by show M ≤ gv; omega) _).setCell (p := ⟨gv, i * 3 + 1, none⟩) (by show M ≤ gv; omega) _).setCell (p := ⟨gv, i * 3 + 2, none⟩) (by show M ≤ gv; omega) _
  refine ⟨F.set i f, A.set i va, k, rfl, h.out.put hi hv.row hv.ne, by rw [List.length_set]; exact hn, fun f' hf' => ?_, hk, h.cur.below (hb N hNb), h.bel.trans (hb g (by omega))⟩
  rcases List.mem_or_eq_of_mem_set hf' with h1 | rfl
  · obtain ⟨t1, t2, t3⟩ := hT f' h1
    exact ⟨by omega, fun s hs => by have := t2 s hs; omega, by omega, .inl t3⟩
  · exact hf
set_option maxRecDepth 100000 in
set_option maxHeartbeats 4000000 in
theorem oddRows_any (g N k base : Nat) (w : World) (v : Value) (F : List Lr) (A : List Value) (h : IsCur g N w k) (hk : k ≤ 1000000) (hO : OutR base w v F A) (hgb : g < base) (hNb : N ≤ base) (hbw : base ≤ w.heap.size) (hF : F.length ≤ 12) (hT : ∀ f ∈ F, f.cs.length ≤ 20 ∧ (∀ s ∈ f.cs, s.length ≤ 30) ∧ f.bd.length ≤ 30) :
    Calls Tryz.prog 57 #[.pointer (some ⟨g, 0, none⟩), v] w (OddP g N k base w v F.length) := by
  have HC := hidG h
  have HO := hidG hO
  have HT := hidG hT
  have hgw : g < w.heap.size := Nat.lt_of_lt_of_le h.1 h.2.1
  obtain ⟨pv, cv, rfl⟩ := hO.form
  clear h hO hT
  go_enter Tryz.func57, Tryz.ntmps57
  by_cases h0 : F.length = 0
  · have z0 : ((F.length : Int) == 0) = true := by rw [beq_iff_eq]; omega
    have HFN : Hid (∀ f ∈ F, FineR f) := fun f hf => by
      rw [List.eq_nil_of_length_eq_zero h0] at hf
      cases hf
    clear h0
    go_wp2_with fail
    go_ret
    exact ⟨F, A, k, rfl, HO.out, rfl, HFN.out, by omega, HC.out, Below.refl _ _⟩
  · have z0 : ((F.length : Int) == 0) = false := by rw [beq_eq_false_iff_ne]; omega
    have hFp : 0 < F.length := by omega
    clear h0
    go_wp2_with fail
    refine (pick_any g N k F.length _ HC.out (by omega) hFp (by omega)).mono ?_
    rintro e w1 ⟨i, k1, rfl, hi, hk1, hc1, hb1⟩
    have HC1 := hidG hc1
    have HB1 := hidG hb1
    have HO1 := hidG (HO.out.bar hb1 hgb)
    clear hc1 hb1
    obtain ⟨gv, cv', va, e0, hgv, a0, a1, a2, ra⟩ := HO1.out.cells hi
    simp only [Value.slice.injEq] at e0
    obtain ⟨rfl, -, rfl⟩ := e0
    obtain ⟨f, hf⟩ : ∃ f, F[i] = f := ⟨_, rfl⟩
    rw [hf] at a1 a2 ra
    obtain ⟨pa, ca, rfl, -⟩ := own_form ra
    have HRA := hidG ra
    clear ra
    have HFI := hidG hf
    have hfm : f ∈ F := by rw [← hf]; exact List.getElem_mem hi
    have HTF := hidG (HT.out f hfm)
    obtain ⟨W2, hW2⟩ : ∃ W2, w1.alloc (.cells #[.slice pa f.cs.length ca, .bool f.st, .string (strOf f.bd)] 38) = W2 := ⟨_, rfl⟩
    have HW2 := hidG hW2
    have hbx1 : w1.heap.size ≠ g := by have := HC1.out.1; have := HC1.out.2.1; omega
    have hbb : base ≤ w1.heap.size := Nat.le_trans hbw HB1.out.size
    have hA0 : A[i]'(by rw [HO1.out.len]; exact hi) = .slice pa f.cs.length ca := by
      have h1 := HO1.out.cell0 (i := i) (by rw [HO1.out.len]; exact hi)
      rw [a0] at h1
      exact (Option.some.inj h1).symm
    have HD2 : Hid (Od g N k1 base w (.slice (some ⟨gv, 0, none⟩) F.length cv) F A i w1.heap.size f.st f.bd (.slice pa f.cs.length ca) W2) := by
      have hb2 : Below w1.heap.size w1 W2 := by rw [← hW2]; exact below_alloc _ _
      refine ⟨by rw [← hW2]; exact bx_new w1 _ _, (HO1.out.below hb2).toI, HC1.out.below (hb2.mono HC1.out.2.1), (HB1.out.below (Nat.le_refl _) (by omega)).trans (hb2.mono (by have := HC1.out.1; have := HC1.out.2.1; omega)), fun e => ?_, fun j hj _ e => ?_⟩
      · have := (HO1.out.own.lt _ e).2; omega
      · have := ((HO1.out.rows j hj (by rw [← HO1.out.len]; exact hj)).lt _ e).2; omega
    have HV2 : Hid (OdV base A i w1.heap.size (.slice pa f.cs.length ca) f.cs W2) := by
      have hb2 : Below w1.heap.size w1 W2 := by rw [← hW2]; exact below_alloc _ _
      refine ⟨own_other' HRA.out (fun b hb => hb2.block b (HRA.out.lt b hb).2), fun b hb j hj hji => ?_, fun e => ?_⟩
      · rw [← hA0] at hb
        have hiA : i < A.length := by rw [HO1.out.len]; exact hi
        rcases Nat.lt_or_gt_of_ne hji with h1 | h1
        · exact fun e => HO1.out.apart j i hj hiA h1 b e hb
        · exact HO1.out.apart i j hiA hj h1 b hb
      · have := (HRA.out.lt _ e).2; omega
    have HS2 : Hid (W2.heap.size = w1.heap.size + 1) := by unfold Hid; rw [← hW2]; simp
    clear hW2 hfm hf hA0
    obtain ⟨bx, hbx⟩ : ∃ bx, w1.heap.size = bx := ⟨_, rfl⟩
    rw [hbx] at HD2 HV2 HS2 hbx1 hbb
    go_upto_region 5 with fail
    rw [HW2.out]
    have HBX := hidG hbx
    clear hbx a0 a1 a2
    go_wp2_with fail
    refine (pick_any g N k1 4 _ HD2.out.cur (by omega) (by decide) (by decide)).mono ?_
    rintro e w3 ⟨r, k3, rfl, hr, hk3, hc3, hb3⟩
    have HD3 := hidG (HD2.out.step hb3 hc3 hbb hgb)
    have HV3 := hidG (HV2.out.bar hb3 hgb)
    clear hc3 hb3
    obtain ⟨b0, b1, b2⟩ := HD3.out.box.c3
    have hbl := HD3.out.box.lt
    obtain ⟨t1, t2, t3⟩ : f.cs.length ≤ 20 ∧ (∀ s ∈ f.cs, s.length ≤ 30) ∧ f.bd.length ≤ 30 := HTF.out
    have HT2 := hidG t2
    clear t2
    have h3g : w3.heap.size ≠ g := by have := HD3.out.cur.1; have := HD3.out.cur.2.1; omega
    have hb3 : base ≤ w3.heap.size := by omega
    obtain ⟨t1, t2, t3⟩ : f.cs.length ≤ 20 ∧ (∀ s ∈ f.cs, s.length ≤ 30) ∧ f.bd.length ≤ 30 := HTF.out
    have HT2 := hidG t2
    clear t2
    have h3g : w3.heap.size ≠ g := by have := HD3.out.cur.1; have := HD3.out.cur.2.1; omega
    have hb3 : base ≤ w3.heap.size := by omega
    obtain ⟨t1, t2, t3⟩ : f.cs.length ≤ 20 ∧ (∀ s ∈ f.cs, s.length ≤ 30) ∧ f.bd.length ≤ 30 := HTF.out
    have HT2 := hidG t2
    clear t2
    have h3g : w3.heap.size ≠ g := by have := HD3.out.cur.1; have := HD3.out.cur.2.1; omega
    have hb3 : base ≤ w3.heap.size := by omega
    obtain ⟨t1, t2, t3⟩ : f.cs.length ≤ 20 ∧ (∀ s ∈ f.cs, s.length ≤ 30) ∧ f.bd.length ≤ 30 := HTF.out
    have HT2 := hidG t2
    clear t2
    have h3g : w3.heap.size ≠ g := by have := HD3.out.cur.1; have := HD3.out.cur.2.1; omega
    have hb3 : base ≤ w3.heap.size := by omega
    obtain ⟨t1, t2, t3⟩ : f.cs.length ≤ 20 ∧ (∀ s ∈ f.cs, s.length ≤ 30) ∧ f.bd.length ≤ 30 := HTF.out
    have HT2 := hidG t2
    clear t2
    have h3g : w3.heap.size ≠ g := by have := HD3.out.cur.1; have := HD3.out.cur.2.1; omega
    have hb3 : base ≤ w3.heap.size := by omega
    obtain ⟨t1, t2, t3⟩ : f.cs.length ≤ 20 ∧ (∀ s ∈ f.cs, s.length ≤ 30) ∧ f.bd.length ≤ 30 := HTF.out
    have HT2 := hidG t2
    clear t2
    have h3g : w3.heap.size ≠ g := by have := HD3.out.cur.1; have := HD3.out.cur.2.1; omega
    have hb3 : base ≤ w3.heap.size := by omega
    obtain rfl | rfl | rfl | rfl : r = 0 ∨ r = 1 ∨ r = 2 ∨ r = 3 := by omega
    · obtain ⟨Wl, hWl⟩ : ∃ Wl, w3.alloc (.cells #[.string ⟨#[]⟩, .string ⟨#[49, 47, 50]⟩, .string ⟨#[45, 48]⟩, .string ⟨#[48, 48]⟩] 9) = Wl := ⟨_, rfl⟩
      have HWl := hidG hWl
      have hbl4 : Below w3.heap.size w3 Wl := by rw [← hWl]; exact below_alloc _ _
      have hXl : Bx Wl w3.heap.size [.string ⟨#[]⟩, .string ⟨#[49, 47, 50]⟩, .string ⟨#[45, 48]⟩, .string ⟨#[48, 48]⟩] := by rw [← hWl]; exact bx_new w3 _ _
      have HDl := hidG (HD3.out.down hbl4 hbb hgb)
      have HVl := hidG (HV3.out.bar (Bar.of hbl4) hgb)
      have HXl := hidG hXl
      clear hWl hbl4 hXl b0 b1 b2
      go_wp2_with fail
      rw [HWl.out]
      refine (pick_any g N k3 4 _ HDl.out.cur (by omega) (by decide) (by decide)).mono ?_
      rintro e w5 ⟨r5, k5, rfl, hr5, hk5, hc5, hb5⟩
      have HD5 := hidG (HDl.out.step hb5 hc5 hbb hgb)
      have HV5 := hidG (HVl.out.bar hb5 hgb)
      have hX5 := HXl.out.barL hb5 h3g
      obtain ⟨u, hu, hul⟩ : ∃ u : List UInt8, w5.cell? ⟨w3.heap.size, r5, none⟩ = some (.string (strOf u)) ∧ u.length ≤ 3 := by
        have c := hX5.cell r5
        obtain rfl | rfl | rfl | rfl : r5 = 0 ∨ r5 = 1 ∨ r5 = 2 ∨ r5 = 3 := by omega
        · exact ⟨[], c, by decide⟩
        · exact ⟨[49, 47, 50], c, by decide⟩
        · exact ⟨[45, 48], c, by decide⟩
        · exact ⟨[48, 48], c, by decide⟩
      have HDx := hidG (HD5.out.set hbb hgb hNb 2 (.string (strOf u)) (bd' := u) (va' := .slice pa f.cs.length ca) rfl)
      have HVx := hidG (HV5.out.set 2 (.string (strOf u)))
      obtain ⟨X, hX⟩ : ∃ X, w5.setCell ⟨bx, 2, none⟩ (.string (strOf u)) = X := ⟨_, rfl⟩
      rw [hX] at HDx HVx
      have HX := hidG hX
      obtain ⟨c0, c1, c2⟩ := HD5.out.box.c3
      have e2 := HD5.out.box.frozen 2
      clear hc5 hb5 hX5 hX
      go_upto_region 17 with fail
      rw [HX.out]
      clear c0 c1 c2 e2 hu
      obtain ⟨x0, x1, x2⟩ := HDx.out.box.c3
      obtain ⟨y0, y1, y2⟩ := HDx.out.out.cells3 hi
      have f0 := HDx.out.out.own.frozenAt (i * 3)
      have f1 := HDx.out.out.own.frozenAt (i * 3 + 1)
      have f2 := HDx.out.out.own.frozenAt (i * 3 + 2)
      go_wp2_with fail
      go_ret
      exact HDx.out.fin (f := ⟨f.cs, f.st, u⟩) HVx.out hi rfl hgb hNb (by omega) HT.out ⟨by show f.cs.length ≤ 21; omega, fun s hs => by have := HT2.out s hs; omega, by show u.length ≤ 60; omega, .inl (by show u.length ≤ 30; omega)⟩
    · obtain ⟨i0, hinf, hz0, hz1, hz2⟩ := info_str
      have hrow := HV3.out.row
      go_wp2_with (at_builtin; refine wpList_append_own_at _ rfl _ _ 28 rfl base 9 i0 (.string ⟨#[]⟩) 1 16 Tryz.underlying28 hinf hz0 hz1 hz2 rfl (by decide) (.slice pa f.cs.length ca) f.cs.length _ rfl (hrow.alloc _) ⟨w3.heap.size, 0, none⟩ 1 1 [.string ⟨#[49]⟩] rfl rfl ?c1 ?c2 ?c3 ?c4 ?c5 ?_)
      case c1 =>
        intro j u hj
        match j, hj with
        | 0, hj => simp at hj; subst hj; simp [Addr.add]
      case c2 => intro u hu; simp at hu; subst hu; rfl
      case c3 => unfold maxLen; omega
      case c4 => omega
      case c5 => simp; omega
      intro v5 w5 hown5 hgr5 _ hblk5
      have hgr : w3.grownBy w5 (Value.slice pa f.cs.length ca).ownBlock := (World.grownBy_alloc w3 _ _).trans hgr5
      have hbel : Below base w3 w5 := (Below.refl _ w3).grown hgr hb3 (fun b e => own_base hrow b e)
      have HD5 : Hid (Od g N k3 base w (.slice (some ⟨gv, 0, none⟩) F.length cv) F A i bx f.st f.bd (.slice pa f.cs.length ca) w5) := HD3.out.gen (fun b e => by
        have h1 := HD3.out.lt hbb b e
        refine hgr.block b h1.2 (fun e' => ?_)
        rcases e with rfl | e | ⟨j, hj, hji, e⟩
        · exact HV3.out.nbx e'.symm
        · exact own_ne hrow HD3.out.out.own (by decide) e'.symm e
        · exact HV3.out.ne b e'.symm j hj hji e) (HD3.out.cur.below (hbel.mono hNb)) (HD3.out.bel.trans (hbel.mono (Nat.le_of_lt hgb)))
      have HV5 : Hid (OdV base A i bx v5 (f.cs ++ [[49]]) w5) := by
        refine ⟨?_, fun b hb j hj hji e => ?_, fun e => ?_⟩
        · rw [List.length_append, show strsC (f.cs ++ [[49]]) = strsC f.cs ++ [.string ⟨#[49]⟩] from (strsC_app f.cs ⟨#[49]⟩).symm]
          exact hown5
        · have h1 := ((HD3.out.out.rows j hj (by rw [← HD3.out.out.len]; exact hj) hji).lt b e).2
          rcases hblk5 with h2 | h2
          · exact HV3.out.ne b (h2.symm.trans hb) j hj hji e
          · rw [h2] at hb; simp at hb; omega
        · rcases hblk5 with h2 | h2
          · exact HV3.out.nbx (h2.symm.trans e)
          · rw [h2] at e; simp at e; omega
      have HFX : Hid (FineR ⟨f.cs ++ [[49]], f.st, f.bd⟩) := by
        refine ⟨by show (f.cs ++ [[49]]).length ≤ 21; rw [List.length_append]; simp; omega, fun s hs => ?_, by show f.bd.length ≤ 60; omega, .inl t3⟩
        rcases List.mem_append.1 hs with h1 | h1
        · have := HT2.out s h1; omega
        · simp at h1; subst h1; decide
      obtain ⟨T, hTe⟩ : ∃ T, f.cs ++ [[49]] = T := ⟨_, rfl⟩
      rw [hTe] at HV5 HFX
      clear hTe
      obtain ⟨p5, c5, rfl, -⟩ := own_form HV5.out.row
      have HDx := hidG (HD5.out.set hbb hgb hNb 0 (.slice p5 T.length c5) (bd' := f.bd) (va' := .slice p5 T.length c5) rfl)
      have HVx := hidG (HV5.out.set 0 (.slice p5 T.length c5))
      obtain ⟨X, hX⟩ : ∃ X, w5.setCell ⟨bx, 0, none⟩ (.slice p5 T.length c5) = X := ⟨_, rfl⟩
      rw [hX] at HDx HVx
      have HX := hidG hX
      obtain ⟨c0, c1, c2⟩ := HD5.out.box.c3
      have e2 := HD5.out.box.frozen 0
      clear hgr5 hblk5 hown5 hgr hbel hrow hX b0 b1 b2
      go_upto_region 17 with fail
      rw [HX.out]
      clear c0 c1 c2 e2
      obtain ⟨x0, x1, x2⟩ := HDx.out.box.c3
      obtain ⟨y0, y1, y2⟩ := HDx.out.out.cells3 hi
      have f0 := HDx.out.out.own.frozenAt (i * 3)
      have f1 := HDx.out.out.own.frozenAt (i * 3 + 1)
      have f2 := HDx.out.out.own.frozenAt (i * 3 + 2)
      go_wp2_with fail
      go_ret
      exact HDx.out.fin (f := ⟨T, f.st, f.bd⟩) HVx.out hi rfl hgb hNb (by omega) HT.out HFX.out
    · go_wp2_with fail
      refine (pick_any g N k3 3 _ HD3.out.cur (by omega) (by decide) (by decide)).mono ?_
      rintro e w5 ⟨r5, k5, rfl, hr5, hk5, hc5, hb5⟩
      have HD5 := hidG (HD3.out.step hb5 hc5 hbb hgb)
      have HV5 := hidG (HV3.out.bar hb5 hgb)
      have hdg := digits_any g N k5 (39 + r5) w5 HD5.out.cur (by omega) (by omega) (by omega)
      rw [show ((39 + r5 : Nat) : Int) = 39 + (r5 : Int) by push_cast; rfl] at hdg
      have HDG := hidG hdg
      clear hdg hc5 hb5
      go_wp2_with fail
      refine HDG.out.mono ?_
      rintro e w6 ⟨sg, ds, k6, rfl, hds, -, -, hk6, hc6, hb6⟩
      obtain ⟨u, hu, hul⟩ : ∃ u : List UInt8, strB (bytesOf (drawn sg ds)) = strOf u ∧ u.length ≤ 42 := by
        refine ⟨bytesOf (drawn sg ds), rfl, ?_⟩
        unfold bytesOf
        rw [List.length_map, drawn_len, hds]
        split <;> omega
      rw [hu]
      have HD6 := hidG (HD5.out.step hb6 hc6 hbb hgb)
      have HV6 := hidG (HV5.out.bar hb6 hgb)
      have HDx := hidG (HD6.out.set hbb hgb hNb 2 (.string (strOf u)) (bd' := u) (va' := .slice pa f.cs.length ca) rfl)
      have HVx := hidG (HV6.out.set 2 (.string (strOf u)))
      obtain ⟨X, hX⟩ : ∃ X, w6.setCell ⟨bx, 2, none⟩ (.string (strOf u)) = X := ⟨_, rfl⟩
      rw [hX] at HDx HVx
      have HX := hidG hX
      obtain ⟨c0, c1, c2⟩ := HD6.out.box.c3
      have e2 := HD6.out.box.frozen 2
      have hkk : k6 ≤ k + 200 := by omega
      clear hc6 hb6 hX hu hds b0 b1 b2
      go_upto_region 17 with fail
      rw [HX.out]
      clear c0 c1 c2 e2
      obtain ⟨x0, x1, x2⟩ := HDx.out.box.c3
      obtain ⟨y0, y1, y2⟩ := HDx.out.out.cells3 hi
      have f0 := HDx.out.out.own.frozenAt (i * 3)
      have f1 := HDx.out.out.own.frozenAt (i * 3 + 1)
      have f2 := HDx.out.out.own.frozenAt (i * 3 + 2)
      go_wp2_with fail
      go_ret
      exact HDx.out.fin (f := ⟨f.cs, f.st, u⟩) HVx.out hi rfl hgb hNb (by omega) HT.out ⟨by show f.cs.length ≤ 21; omega, fun s hs => by have := HT2.out s hs; omega, by show u.length ≤ 60; omega, .inr HT2.out⟩
    · by_cases hn0 : f.cs.length = 0
      · have z5 : decide ((0 : Int) < (f.cs.length : Int)) = false := decide_eq_false (by omega)
        have z6 : decide (0 < f.cs.length) = false := decide_eq_false (by omega)
        clear hn0
        go_upto_region 17 with fail
        clear b0 b1 b2
        obtain ⟨x0, x1, x2⟩ := HD3.out.box.c3
        obtain ⟨y0, y1, y2⟩ := HD3.out.out.cells3 hi
        have f0 := HD3.out.out.own.frozenAt (i * 3)
        have f1 := HD3.out.out.own.frozenAt (i * 3 + 1)
        have f2 := HD3.out.out.own.frozenAt (i * 3 + 2)
        go_wp2_with fail
        go_ret
        exact HD3.out.fin (f := f) HV3.out hi rfl hgb hNb (by omega) HT.out ⟨by omega, fun s hs => by have := HT2.out s hs; omega, by omega, .inl t3⟩
      · have z5 : decide ((0 : Int) < (f.cs.length : Int)) = true := decide_eq_true (by omega)
        obtain ⟨i0, hinf, hz0, hz1, hz2⟩ := info_str
        have hrow := HV3.out.row
        obtain ⟨ga, rfl⟩ : ∃ ga, pa = some ⟨ga, 0, none⟩ := by
          obtain ⟨p', c', e', hp⟩ := own_form hrow
          simp only [Value.slice.injEq] at e'
          obtain ⟨rfl, -, rfl⟩ := e'
          rcases hp with rfl | hp
          · rcases hrow.2 with ⟨_, e2⟩ | ⟨_, _, _, e2, _⟩
            · omega
            · cases e2
          · exact hp
        have hcl : ∀ j u, (strsC f.cs)[j]? = some u → w3.cell? (Addr.add ⟨ga, 0, none⟩ j) = some u := fun j u hj => by
          have := own_read hrow hj
          rw [show Addr.add ⟨ga, 0, none⟩ j = ⟨ga, j, none⟩ by unfold Addr.add; split <;> simp_all]
          exact this
        have hone : ∀ u ∈ strsC f.cs, u.oneCell' = true := fun u hu => by
          unfold strsC at hu
          obtain ⟨x, -, rfl⟩ := List.mem_map.1 hu
          rfl
        have hsl : (strsC f.cs).length = f.cs.length * 1 := by unfold strsC; simp
        go_wp2_with (at_builtin; refine wpList_append_own_at _ rfl _ _ 28 rfl w3.heap.size 9 i0 (.string ⟨#[]⟩) 1 16 Tryz.underlying28 hinf hz0 hz1 hz2 rfl (by decide) (.slice none 0 0) 0 [] rfl (World.ownsRow_nil _ _ _ _) ⟨ga, 0, none⟩ f.cs.length ca (strsC f.cs) rfl hsl hcl hone ?c3 ?c4 ?c5 ?_)
        case c3 => unfold maxLen; omega
        case c4 => omega
        case c5 => exact Nat.le_refl _
        intro va3 w4 hown4 hgr4 _ _
        have hbel4 : Below w3.heap.size w3 w4 := (Below.refl _ w3).grown hgr4 (Nat.le_refl _) (fun b e => by cases e)
        obtain ⟨p4, c4, rfl, hp4⟩ := own_form hown4
        obtain ⟨g4, rfl⟩ : ∃ g4, p4 = some ⟨g4, 0, none⟩ := by
          rcases hp4 with rfl | hp
          · rcases hown4.2 with ⟨_, e2⟩ | ⟨_, _, _, e2, _⟩
            · omega
            · cases e2
          · exact hp
        have HD4 := hidG (HD3.out.down hbel4 hbb hgb)
        have HA4 := hidG hown4
        have HB4 : Hid (Bar g w3 w4) := Bar.of hbel4
        have hnp : 0 < f.cs.length := by omega
        clear hown4 hgr4 hbel4 hcl hone hsl hrow b0 b1 b2 hn0 hp4
        go_wp2_with fail
        refine (pick_any g N k3 f.cs.length _ HD4.out.cur (by omega) hnp (by omega)).mono ?_
        rintro e wj ⟨j, kj, rfl, hj, hkj, hcj, hbj⟩
        have HDj := hidG (HD4.out.step hbj hcj hbb hgb)
        have HAj := hidG (own_bar HA4.out hbj (by omega))
        have HBj := hidG (HB4.out.trans hbj)
        clear hcj hbj
        go_wp2_with fail
        refine (pick_any g N kj 3 _ HDj.out.cur (by omega) (by decide) (by decide)).mono ?_
        rintro e w5 ⟨r5, k5, rfl, hr5, hk5, hc5, hb5⟩
        have HD5 := hidG (HDj.out.step hb5 hc5 hbb hgb)
        have HA5 := hidG (own_bar HAj.out hb5 (by omega))
        have HB5 := hidG (HBj.out.trans hb5)
        have hdg := digits_any g N k5 (39 + r5) w5 HD5.out.cur (by omega) (by omega) (by omega)
        rw [show ((39 + r5 : Nat) : Int) = 39 + (r5 : Int) by push_cast; rfl] at hdg
        have HDG := hidG hdg
        clear hdg hc5 hb5
        go_wp2_with fail
        refine HDG.out.mono ?_
        rintro e w6 ⟨sg, ds, k6, rfl, hds, -, -, hk6, hc6, hb6⟩
        obtain ⟨u, hu, hul⟩ : ∃ u : List UInt8, strB (bytesOf (drawn sg ds)) = strOf u ∧ u.length ≤ 42 := by
          refine ⟨bytesOf (drawn sg ds), rfl, ?_⟩
          unfold bytesOf
          rw [List.length_map, drawn_len, hds]
          split <;> omega
        rw [hu]
        have HD6 := hidG (HD5.out.step hb6 hc6 hbb hgb)
        have HA6 := hidG (own_bar HA5.out hb6 (by omega))
        have HB6 := hidG (HB5.out.trans hb6)
        have hg4 : w3.heap.size ≤ g4 := (HA6.out.lt g4 rfl).1
        have q0 := HA6.out.cellAt j (by omega)
        have q1 := HA6.out.frozenAt j
        have hjs : (strsC f.cs)[j]? = some (.string (strOf f.cs[j])) := by unfold strsC; rw [List.getElem?_map, List.getElem?_eq_getElem hj]; rfl
        rw [hjs] at q0
        have hset : (strsC f.cs).set j (.string (strOf u)) = strsC (f.cs.set j u) := by unfold strsC; rw [List.map_set]
        have hbs : Below w3.heap.size w6 (w6.setCell ⟨g4, j, none⟩ (.string (strOf u))) := (Below.refl _ w6).setCell (p := ⟨g4, j, none⟩) hg4 _
        have hA7 := (HA6.out.stored j (.string (strOf u))).1
        rw [hset] at hA7
        have hD7 := HD3.out.step (HB6.out.then hbs) (HD6.out.cur.below (hbs.mono (by omega))) hbb hgb
        obtain ⟨X1, hX1⟩ : ∃ X1, w6.setCell ⟨g4, j, none⟩ (.string (strOf u)) = X1 := ⟨_, rfl⟩
        rw [hX1] at hA7 hD7
        have HX1 := hidG hX1
        have HD7 := hidG hD7
        have HV7 : Hid (OdV base A i bx (.slice (some ⟨g4, 0, none⟩) f.cs.length c4) (f.cs.set j u) X1) := by
          refine ⟨by rw [List.length_set]; exact own_lower hA7 hb3, fun b hb m hm hmi e => ?_, fun e => ?_⟩
          · have h1 := ((HD3.out.out.rows m hm (by rw [← HD3.out.out.len]; exact hm) hmi).lt b e).2
            have h2 : g4 = b := Option.some.inj hb
            omega
          · have h2 : g4 = bx := Option.some.inj e
            omega
        have HFX : Hid (FineR ⟨f.cs.set j u, f.st, f.bd⟩) := by
          refine ⟨by show (f.cs.set j u).length ≤ 21; rw [List.length_set]; omega, fun s hs => ?_, by show f.bd.length ≤ 60; omega, .inl t3⟩
          rcases List.mem_or_eq_of_mem_set hs with h1 | rfl
          · have := HT2.out s h1; omega
          · omega
        have hkk : k6 ≤ k + 200 := by omega
        clear hc6 hb6 hX1 hu hds hjs hset hbs hA7 hD7
        go_upto_region 10 with fail
        rw [HX1.out]
        clear q0 q1
        have HDx := hidG (HD7.out.set hbb hgb hNb 0 (.slice (some ⟨g4, 0, none⟩) f.cs.length c4) (bd' := f.bd) (va' := .slice (some ⟨g4, 0, none⟩) f.cs.length c4) rfl)
        have HVx := hidG (HV7.out.set 0 (.slice (some ⟨g4, 0, none⟩) f.cs.length c4))
        obtain ⟨X, hX⟩ : ∃ X, X1.setCell ⟨bx, 0, none⟩ (.slice (some ⟨g4, 0, none⟩) f.cs.length c4) = X := ⟨_, rfl⟩
        rw [hX] at HDx HVx
        have HX := hidG hX
        obtain ⟨c0, c1, c2⟩ := HD7.out.box.c3
        have e2 := HD7.out.box.frozen 0
        clear hX
        go_upto_region 17 with fail
        rw [HX.out]
        clear c0 c1 c2 e2
        obtain ⟨x0, x1, x2⟩ := HDx.out.box.c3
        obtain ⟨y0, y1, y2⟩ := HDx.out.out.cells3 hi
        have f0 := HDx.out.out.own.frozenAt (i * 3)
        have f1 := HDx.out.out.own.frozenAt (i * 3 + 1)
        have f2 := HDx.out.out.own.frozenAt (i * 3 + 2)
        go_wp2_with fail
        go_ret
        exact HDx.out.fin (f := ⟨f.cs.set j u, f.st, f.bd⟩) HVx.out hi rfl hgb hNb (by omega) HT.out HFX.out
set_option maxRecDepth 100000 in
theorem l1Size_any (a : Option Addr) (n cap : Nat) (w : World) (hn : n ≤ maxLen) :
    Calls Tryz.prog 55 #[.slice a n cap, .int .i64 14, .int .i64 9] w fun e w' => ∃ r : Nat, e = .returned (.int .i64 (r : Nat)) ∧ r ≤ 9 ∧ w = w' := by
  have hn' : n ≤ 9223372036854775807 := hn
  by_cases hq : 9 < n / 14
  · have z : decide ((9 : Int) < (n : Int) / 14) = true := by simp only [decide_eq_true_eq]; omega
    go_enter Tryz.func55, Tryz.ntmps55
    go_wp2
    go_ret
    exact ⟨9, rfl, by decide, rfl⟩
  · have z : decide ((9 : Int) < (n : Int) / 14) = false := by simp only [decide_eq_false_iff_not]; omega
    go_enter Tryz.func55, Tryz.ntmps55
    go_wp2
    go_ret
    exact ⟨n / 14, rfl, by omega, rfl⟩
/-- Rows whose Coefs may be shared. -/
structure OutD (base : Nat) (W : World) (v : Value) (F : List Lr) (A : List Value) : Prop where
  len : A.length = F.length
  own : W.ownsRow base 38 3 v F.length (cellsR F A)
  rows : ∀ i (h : i < A.length) (h' : i < F.length), W.ownsRow base 9 1 A[i] F[i].cs.length (strsC F[i].cs)
theorem OutR.toD {base : Nat} {W : World} {v : Value} {F : List Lr} {A : List Value} (h : OutR base W v F A) : OutD base W v F A := ⟨h.len, h.own, h.rows⟩
theorem OutD.keep {base : Nat} {W W' : World} {v : Value} {F : List Lr} {A : List Value} (h : OutD base W v F A) (hk : ∀ b, base ≤ b → b < W.heap.size → W'.heap[b]? = W.heap[b]?) : OutD base W' v F A :=
  ⟨h.len, own_other' h.own (fun g hg => hk g (h.own.lt g hg).1 (h.own.lt g hg).2), fun i hi hi' => own_other' (h.rows i hi hi') (fun g hg => hk g ((h.rows i hi hi').lt g hg).1 ((h.rows i hi hi').lt g hg).2)⟩
theorem OutD.bar {base g : Nat} {W W' : World} {v : Value} {F : List Lr} {A : List Value} (h : OutD base W v F A) (hb : Bar g W W') (hg : g < base) : OutD base W' v F A :=
  h.keep (fun b h1 h2 => hb.block b h2 (by omega))
theorem OutD.at {base : Nat} {W : World} {v : Value} {F : List Lr} {A : List Value} (h : OutD base W v F A) : RowsAt W v F := by
  obtain ⟨p, c, rfl, h1, h2, h3⟩ := own_row h.own
  refine ⟨p, c, rfl, h1, h2, ?_⟩
  rcases h3 with h3 | ⟨g, rfl, hg⟩
  · exact .inl (List.eq_nil_of_length_eq_zero h3)
  · refine .inr ⟨g, rfl, hg, fun i hi => ?_⟩
    have hi' : i < A.length := by rw [h.len]; exact hi
    obtain ⟨e0, e1, e2⟩ := cellsR_at F A i hi hi'
    exact ⟨⟨A[i], own_read h.own e0, strs_at (h.rows i hi' hi)⟩, own_read h.own e1, own_read h.own e2⟩
theorem OutD.cells {base : Nat} {W : World} {v : Value} {F : List Lr} {A : List Value} (h : OutD base W v F A) (hi : 0 < F.length) : ∃ (gv c : Nat), v = .slice (some ⟨gv, 0, none⟩) F.length c ∧ gv < W.heap.size ∧ W.cell? ⟨gv, 0, none⟩ = some (A[0]'(by rw [h.len]; exact hi)) ∧ W.cell? ⟨gv, 1, none⟩ = some (.bool F[0].st) ∧ W.cell? ⟨gv, 2, none⟩ = some (.string (strOf F[0].bd)) := by
  obtain ⟨p, c, e, hp⟩ := own_form h.own
  obtain ⟨gv, rfl⟩ : ∃ gv, p = some ⟨gv, 0, none⟩ := by
    rcases hp with rfl | hp
    · have ho := h.own
      rw [e] at ho
      rcases ho.2 with ⟨_, e2⟩ | ⟨_, _, _, e2, _⟩
      · omega
      · cases e2
    · exact hp
  have ho := h.own
  rw [e] at ho
  obtain ⟨c0, c1, c2⟩ := cellsR_at F A 0 hi (by rw [h.len]; exact hi)
  exact ⟨gv, c, e, (ho.lt gv rfl).2, own_read ho c0, own_read ho c1, own_read ho c2⟩
/-- A row behind rows. -/
theorem OutD.app {base : Nat} {W W' : World} {v v' : Value} {F : List Lr} {A : List Value} (h : OutD base W v F A) {f : Lr} {va : Value} (hva : W.ownsRow base 9 1 va f.cs.length (strsC f.cs)) (hown : W'.ownsRow base 38 3 v' (F.length + 1) (cellsR F A ++ [va, .bool f.st, .string (strOf f.bd)])) (hk : ∀ b, b < W.heap.size → v.ownBlock ≠ some b → W'.heap[b]? = W.heap[b]?) : OutD base W' v' (F ++ [f]) (A ++ [va]) := by
  have hse : 9 ≠ 38 := by decide
  have keepS : ∀ a L, W.ownsRow base 9 1 a L.length (strsC L) → W'.ownsRow base 9 1 a L.length (strsC L) := fun a L ha => own_other' ha (fun g hg => hk g (ha.lt g hg).2 (own_ne ha h.own hse hg))
  refine ⟨by simp [h.len], ?_, fun i hi hi' => ?_⟩
  · rw [cellsR_app F A f va h.len, List.length_append]
    exact hown
  · by_cases e : i < F.length
    · have e' : i < A.length := by rw [h.len]; exact e
      rw [List.getElem_append_left e', List.getElem_append_left e]
      exact keepS _ _ (h.rows i e' e)
    · have e1 : i = F.length := by simp at hi'; omega
      subst e1
      rw [List.getElem_append_right (Nat.le_refl _), List.getElem_append_right (by rw [h.len]; exact Nat.le_refl _)]
      simp only [Nat.sub_self, List.getElem_cons_zero, h.len]
      exact keepS _ _ hva
theorem wpList_appD {ops : Array Oper} {rest : List Oper} {o : Oper} {a : Act} {Q : Exit → Act → World → Prop} {W : World} {base : Nat} {v : Value} {F : List Lr} {A : List Value} (hgd : o.guard = none) (s y : Operand)
    (ho : o.op = .call { callee := .builtin .append, args := #[s, y], argTypes := #[24, 24] }) (hs : a.eval s = v) (hown : OutD base W v F A) {f : Lr} {va : Value} (hva : W.ownsRow base 9 1 va f.cs.length (strsC f.cs))
    (H : Nat) (hx : a.eval y = .slice (some ⟨H, 0, none⟩) 1 1) (hH : W.heap.size = H) (n : Nat) (hnl : F.length = n) (hn : n ≤ 1000000000) (hbase : base ≤ W.heap.size)
    (h : ∀ v' W', OutD base W' v' (F ++ [f]) (A ++ [va]) → W.heap.size < W'.heap.size → W.grownBy W' v.ownBlock → wpList Tryz.prog ops Q rest (a.put o.dst v') W') :
    wpList Tryz.prog ops Q (o :: rest) a (W.alloc (.cells #[va, .bool f.st, .string (strOf f.bd)] 38)) := by
  subst hH
  subst hnl
  obtain ⟨i0, hinf, hz0, hz1, hz2⟩ := info_row
  have hone : ∀ u ∈ [va, .bool f.st, .string (strOf f.bd)], u.oneCell' = true := by
    obtain ⟨p, c, rfl, _⟩ := own_form hva
    simp [Value.oneCell']
  refine wpList_append_lies _ hgd s y 24 ho base 38 i0 _ 3 48 Tryz.underlying24 hinf hz0 hz1 hz2 rfl (by decide) v F.length (cellsR F A) hs (hown.own.alloc _) ⟨W.heap.size, 0, none⟩ 1 1 [va, .bool f.st, .string (strOf f.bd)] hx rfl
    (World.news_of_block (cs := #[va, .bool f.st, .string (strOf f.bd)]) (t := 38) (fr := (0, 0)) (heap_alloc_new W _)) hone (by decide) (by unfold maxLen; omega) (by omega) (by simp; omega) _ rfl ?_
  intro g cap W' k1 k2 k3 k4
  have hsz : W.heap.size < W'.heap.size := by have := k2.size; simp at this; omega
  have hgr : W.grownBy W' v.ownBlock := (World.grownBy_alloc W _ v.ownBlock).trans k2
  refine h _ W' (hown.app hva k1 (fun b hb hne => ?_)) hsz hgr
  rw [k2.block b (by simp; omega) (by intro e; exact hne e.symm)]
  exact (below_alloc W _).block b hb
/-- What l12Drawn answers. -/
def L12P (w : World) (e : Ending) (w' : World) : Prop := ∃ (cols : Nat) (v : Value) (F : List Lr) (A : List Value) (k base : Nat), e = .returned (.tuple #[.int .i64 (cols : Nat), v, .pointer (some ⟨w.heap.size, 0, none⟩)]) ∧ cols ≤ 21 ∧ OutD base w' v F A ∧ w.heap.size < base ∧ base ≤ w'.heap.size ∧ F.length ≤ 60 ∧ (∀ f ∈ F, FineR f) ∧ k ≤ 100000 ∧ IsCur w.heap.size (w.heap.size + 1) w' k ∧ Below w.heap.size w w'
def lenV : Value → Nat
  | .slice _ n _ => n
  | _ => 0
/-- Rows while more are laid behind. -/
def Rw (K g N base : Nat) (w : World) (v : Value) (W : World) : Prop := ∃ (F : List Lr) (A : List Value) (k : Nat), OutD base W v F A ∧ 0 < F.length ∧ F.length ≤ 51 ∧ (∀ f ∈ F, FineR f) ∧ k ≤ K + 2 * F.length ∧ IsCur g N W k ∧ Below g w W
theorem Rw.mono {g N base : Nat} {w : World} {v : Value} {W : World} (h : Rw 20000 g N base w v W) : Rw 20002 g N base w v W := by
  obtain ⟨F, A, k, h1, h2, h3, h4, h5, h6⟩ := h
  exact ⟨F, A, k, h1, h2, h3, h4, by omega, h6⟩
set_option maxRecDepth 100000 in
set_option maxHeartbeats 4000000 in
theorem l12Drawn_any (a : Option Addr) (n cap : Nat) (w : World) (h : CodeArg w a n cap) :
    Calls Tryz.prog 25 #[.slice a n cap] w (L12P w) := by
  obtain ⟨W0, hW0⟩ : ∃ W0, w.alloc (.cells #[.slice a n cap, .int .i64 0, .int .u64 0] 48) = W0 := ⟨_, rfl⟩
  have HW0 := hidG hW0
  have hb0 : Below w.heap.size w W0 := by rw [← hW0]; exact below_alloc _ _
  have hc0 : IsCur w.heap.size (w.heap.size + 1) W0 0 := by rw [← hW0]; exact cur_new h _ 0 0 (by decide)
  have hnm : n ≤ maxLen := Nat.le_trans h.1 h.2.1
  obtain ⟨g, hg⟩ : ∃ g, w.heap.size = g := ⟨_, rfl⟩
  obtain ⟨N, hN⟩ : ∃ N, g + 1 = N := ⟨_, rfl⟩
  have HG := hidG hg
  unfold L12P
  rw [hg] at hc0 hb0 ⊢
  rw [hN] at hc0 ⊢
  have HC0 := hidG hc0
  have HB0 := hidG hb0
  have hgN : g < N := by omega
  clear h hW0 hb0 hc0 hN
  go_enter Tryz.func25, Tryz.ntmps25
  go_upto_region 2 with fail
  rw [HW0.out]
  clear hg
  go_wp2_with fail
  refine (pick_any g N 0 4 _ HC0.out (by omega) (by decide) (by decide)).mono ?_
  rintro e w1 ⟨r1, k1, rfl, hr1, hk1, hc1, hb1⟩
  have HC1 := hidG hc1
  have HB1 := hidG (HB0.out.trans (hb1.below (Nat.le_refl _) (Nat.le_of_lt (Nat.lt_of_lt_of_le HC0.out.1 HC0.out.2.1))))
  clear hc1 hb1
  obtain ⟨c1, hc1, hc1'⟩ : ∃ c1 : Nat, 1 + (r1 : Int) = (c1 : Int) ∧ c1 ≤ 4 := ⟨1 + r1, by push_cast; rfl, by omega⟩
  go_wp2_with fail
  refine (l1Size_any a n cap _ hnm).mono ?_
  rintro e w2 ⟨r2, rfl, hr2, rfl⟩
  obtain ⟨n1, hn1, hn1', hn1''⟩ : ∃ n1 : Nat, 1 + (r2 : Int) = (n1 : Int) ∧ 1 ≤ n1 ∧ n1 ≤ 10 := ⟨1 + r2, by push_cast; rfl, by omega, by omega⟩
  go_wp2_with fail
  refine (pick_any g N k1 12 _ HC1.out (by omega) (by decide) (by decide)).mono ?_
  rintro e w3 ⟨r3, k3, rfl, hr3, hk3, hc3, hb3⟩
  have HC3 := hidG hc3
  have HB3 := hidG (HB1.out.trans (hb3.below (Nat.le_refl _) (Nat.le_of_lt (Nat.lt_of_lt_of_le HC1.out.1 HC1.out.2.1))))
  clear hc3 hb3
  go_upto_if 20 with fail
  go_cut [6, 7] (fun s6 s7 wx => ∃ cols m kc : Nat, s6 = .int .i64 (cols : Nat) ∧ s7 = .int .i64 (m : Nat) ∧ cols ≤ 20 ∧ 1 ≤ m ∧ m ≤ 10 ∧ kc ≤ 20 ∧ IsCur g N wx kc ∧ Below g w wx)
  case first =>
    by_cases h0 : r3 = 0
    · have z3 : ((r3 : Int) == 0) = true := by rw [beq_iff_eq]; omega
      clear h0
      go_wp2_with fail
      refine (pick_any g N k3 3 _ HC3.out (by omega) (by decide) (by decide)).mono ?_
      rintro e w4 ⟨r4, k4, rfl, hr4, hk4, hc4, hb4⟩
      have HC4 := hidG hc4
      have HB4 := hidG (HB3.out.trans (hb4.below (Nat.le_refl _) (Nat.le_of_lt (Nat.lt_of_lt_of_le HC3.out.1 HC3.out.2.1))))
      clear hc4 hb4
      obtain ⟨c4, hc4, hc4'⟩ : ∃ c4 : Nat, (r4 : Int) * 10 = (c4 : Int) ∧ c4 ≤ 20 := ⟨r4 * 10, by push_cast; rfl, by omega⟩
      go_wp2_with fail
      go_meet
      exact ⟨c4, 2, k4, rfl, rfl, hc4', by decide, by decide, by omega, HC4.out, HB4.out⟩
    · have z3 : ((r3 : Int) == 0) = false := by rw [beq_eq_false_iff_ne]; omega
      clear h0
      go_wp2_with fail
      go_meet
      exact ⟨c1, n1, k3, rfl, rfl, by omega, hn1', hn1'', by omega, HC3.out, HB3.out⟩
  case rest =>
    obtain ⟨cols, m, kc, rfl, rfl, hcols, hm1, hm2, hkc, hcc, hbc⟩ := hcut
    have HCC := hidG hcc
    have HBC := hidG hbc
    clear hcc hbc
    go_wp2_with fail
    refine (pick_any g N kc 3 _ HCC.out (by omega) (by decide) (by decide)).mono ?_
    rintro e w5 ⟨r5, k5, rfl, hr5, hk5, hc5, hb5⟩
    have HC5 := hidG hc5
    have HB5 := hidG (HBC.out.trans (hb5.below (Nat.le_refl _) (Nat.le_of_lt (Nat.lt_of_lt_of_le HCC.out.1 HCC.out.2.1))))
    clear hc5 hb5
    go_wp2_with fail
    refine (rows_any g N k5 cols m r5 _ HC5.out (by omega) hcols (by omega) hr5).mono ?_
    rintro e w6 ⟨v, F, A, k6, rfl, hO6, hF12, hF1, hT6, hk6, hc6, hb6⟩
    have HO6 := hidG hO6
    have HT6 := hidG hT6
    have HC6 := hidG hc6
    have hg5 : g < w5.heap.size := Nat.lt_of_lt_of_le HC5.out.1 HC5.out.2.1
    have hN5 : N ≤ w5.heap.size := HC5.out.2.1
    have h56 : w5.heap.size ≤ w6.heap.size := hb6.size
    have HB6 := hidG (HB5.out.trans (hb6.below (Nat.le_refl _) (Nat.le_of_lt hg5)))
    clear hO6 hT6 hc6 hb6
    have HF6 : Hid (∀ f ∈ F, FineR f) := fun f hf => by
      obtain ⟨t1, t2, t3⟩ := HT6.out f hf
      exact ⟨by omega, fun s hs => by have := t2 s hs; omega, by omega, .inl t3⟩
    go_wp2_with fail
    refine (pick_any g N k6 10 _ HC6.out (by omega) (by decide) (by decide)).mono ?_
    rintro e w7 ⟨r7, k7, rfl, hr7, hk7, hc7, hb7⟩
    have HC7 := hidG hc7
    have HO7 := hidG (HO6.out.bar hb7 hg5)
    have HB7 := hidG (HB6.out.trans (hb7.below (Nat.le_refl _) (Nat.le_of_lt (Nat.lt_of_lt_of_le HC6.out.1 HC6.out.2.1))))
    have h67 : w6.heap.size ≤ w7.heap.size := hb7.size
    clear hc7 hb7
    obtain ⟨pv, cv, rfl⟩ := HO7.out.form
    go_upto_block 0 with fail
    go_cut [6, 8] (fun s6 s8 wx => ∃ (c : Nat), s6 = .int .i64 (c : Nat) ∧ c ≤ 21 ∧ Rw 20002 g N w5.heap.size w s8 wx ∧ w5.heap.size ≤ wx.heap.size)
    case first =>
      have HRW : Hid (Rw 20002 g N w5.heap.size w (.slice pv F.length cv) w7) := ⟨F, A, k7, HO7.out.toD, by omega, by omega, HF6.out, by omega, HC7.out, HB7.out⟩
      by_cases h0 : r7 = 0
      · have z0 : ((r7 : Int) == 0) = true := by rw [beq_iff_eq]; omega
        clear h0
        go_wp2_with fail
        refine (oddRows_any g N k7 w5.heap.size _ _ F A HC7.out (by omega) HO7.out hg5 hN5 (by omega) hF12 HT6.out).mono ?_
        rintro e w8 ⟨F8, A8, k8, rfl, hO8, hF8, hT8, hk8, hc8, hb8⟩
        have HR8 : Hid (Rw 20002 g N w5.heap.size w (.slice pv F.length cv) w8) := ⟨F8, A8, k8, hO8.toD, by omega, by omega, hT8, by omega, hc8, HB7.out.trans hb8⟩
        have h78 : w7.heap.size ≤ w8.heap.size := hb8.size
        clear hO8 hF8 hT8 hc8 hb8
        go_wp2_with fail
        go_meet
        exact ⟨cols, rfl, by omega, HR8.out, by omega⟩
      · have z0 : ((r7 : Int) == 0) = false := by rw [beq_eq_false_iff_ne]; omega
        clear h0
        by_cases h1 : r7 = 1
        · have z1 : ((r7 : Int) == 1) = true := by rw [beq_iff_eq]; omega
          clear h1
          go_wp2_with fail
          refine (pick_any g N k7 4 _ HC7.out (by omega) (by decide) (by decide)).mono ?_
          rintro e w8 ⟨r8, k8, rfl, hr8, hk8, hc8, hb8⟩
          have HC8 := hidG hc8
          have HO8 := hidG (HO7.out.toD.bar hb8 hg5)
          have HB8 := hidG (HB7.out.trans (hb8.below (Nat.le_refl _) (Nat.le_of_lt (Nat.lt_of_lt_of_le HC7.out.1 HC7.out.2.1))))
          have h78 : w7.heap.size ≤ w8.heap.size := hb8.size
          clear hc8 hb8
          go_upto_if 41 with fail
          go_cut [6] (fun s6 wx => ∃ (c : Nat), s6 = .int .i64 (c : Nat) ∧ c ≤ 21 ∧ w8 = wx)
          case first =>
            by_cases h0 : r8 = 0
            · have z3 : ((r8 : Int) == 0) = true := by rw [beq_iff_eq]; omega
              clear h0
              go_wp2_with fail
              go_meet
              exact ⟨21, rfl, by decide, rfl⟩
            · have z3 : ((r8 : Int) == 0) = false := by rw [beq_eq_false_iff_ne]; omega
              clear h0
              go_wp2_with fail
              go_meet
              exact ⟨cols, rfl, by omega, rfl⟩
          case rest =>
            obtain ⟨c, rfl, hc, rfl⟩ := hcut
            go_wp2_with fail
            refine (pick_any g N k8 4 _ HC8.out (by omega) (by decide) (by decide)).mono ?_
            rintro e w9 ⟨r9, k9, rfl, hr9, hk9, hc9, hb9⟩
            have h89 : w8.heap.size ≤ w9.heap.size := hb9.size
            have HR9 : Hid (Rw 20000 g N w5.heap.size w (.slice pv F.length cv) w9) := ⟨F, A, k9, HO8.out.bar hb9 hg5, by omega, by omega, HF6.out, by omega, hc9, HB8.out.trans (hb9.below (Nat.le_refl _) (Nat.le_of_lt (Nat.lt_of_lt_of_le HC8.out.1 HC8.out.2.1)))⟩
            clear hc9 hb9
            by_cases h0 : r9 = 0
            · have z3 : ((r9 : Int) == 0) = true := by rw [beq_iff_eq]; omega
              clear h0
              go_wp2_with fail
              go_loopw [8] (fun v8 wr => Rw 20000 g N w5.heap.size w v8 wr ∧ w5.heap.size ≤ wr.heap.size) (fun v8 _ => 60 - lenV v8)
              case atStart => exact ⟨HR9.out, by omega⟩
              case round =>
                rename World => wa
                obtain ⟨⟨Fa, Aa, ka, hOa, hFa, hFb, hTa, hka, hca, hba⟩, hsa⟩ := hrel
                have HOa := hidG hOa
                have HTa := hidG hTa
                have HCa := hidG hca
                have HBa := hidG hba
                obtain ⟨gv, cv', rfl, -⟩ := hOa.cells hFa
                clear hOa hTa hca hba
                go_wp2_with fail
                refine (pick_any g N ka 2 _ HCa.out (by omega) (by decide) (by decide)).mono ?_
                rintro e wb ⟨rb, kb, rfl, hrb, hkb, hcb, hbb⟩
                have HCb := hidG hcb
                have HOb := hidG (HOa.out.bar hbb hg5)
                have HBb := hidG (HBa.out.trans (hbb.below (Nat.le_refl _) (Nat.le_of_lt (Nat.lt_of_lt_of_le HCa.out.1 HCa.out.2.1))))
                have hab : wa.heap.size ≤ wb.heap.size := hbb.size
                clear hcb hbb
                by_cases hlt : Fa.length < 50 + rb
                · have z4 : decide ((Fa.length : Int) < 50 + (rb : Int)) = true := decide_eq_true (by omega)
                  obtain ⟨gv', cv'', e0, hgv, x0, x1, x2⟩ := HOb.out.cells hFa
                  simp only [Value.slice.injEq, Option.some.injEq, Addr.mk.injEq, and_true, true_and] at e0
                  obtain ⟨rfl, rfl⟩ := e0
                  have hrow := HOb.out.rows 0 (by rw [HOb.out.len]; exact hFa) hFa
                  obtain ⟨f, hf⟩ : ∃ f, Fa[0] = f := ⟨_, rfl⟩
                  obtain ⟨va, hva⟩ : ∃ va, Aa[0]'(by rw [HOb.out.len]; exact hFa) = va := ⟨_, rfl⟩
                  have hfm : f ∈ Fa := by rw [← hf]; exact List.getElem_mem hFa
                  have HFf := hidG (HTa.out f hfm)
                  rw [hf] at x1 x2 hrow
                  rw [hva] at x0 hrow
                  obtain ⟨pa, ca, rfl, -⟩ := own_form hrow
                  have HRO := hidG hrow
                  clear hf hva hfm hrow
                  go_wp2_with (at_builtin; refine wpList_appD (W := wb) (base := w5.heap.size) (F := Fa) (A := Aa) (f := f) (va := .slice pa f.cs.length ca) rfl _ _ rfl rfl ?own ?va _ rfl ?hH Fa.length ?hk ?hn ?hb ?_)
                  case own => exact HOb.out
                  case va => exact HRO.out
                  case hH => simp
                  case hk => rfl
                  case hn => omega
                  case hb => omega
                  intro v8' wc hOc hszc hgrc
                  have HOc := hidG hOc
                  obtain ⟨pc, cc, rfl, -⟩ := own_form hOc.own
                  have hbel : Below w5.heap.size wb wc := (Below.refl _ _).grown hgrc (by omega) (fun b hb => (HOb.out.own.lt b hb).1)
                  have HCc := hidG (HCb.out.below (hbel.mono hN5))
                  have HBc := hidG (HBb.out.trans (hbel.mono (Nat.le_of_lt hg5)))
                  have HRc : Hid (Rw 20000 g N w5.heap.size w (.slice pc (Fa ++ [f]).length cc) wc) := by
                    refine ⟨Fa ++ [f], _, kb, HOc.out, by simp, by simp; omega, fun f' hf' => ?_, by simp; omega, HCc.out, HBc.out⟩
                    rcases List.mem_append.1 hf' with h1 | h1
                    · exact HTa.out f' h1
                    · simp at h1
                      subst h1
                      exact HFf.out
                  have hlc : lenV (.slice pc (Fa ++ [f]).length cc) = Fa.length + 1 := by simp [lenV]
                  have hl0 : lenV (.slice (some ⟨gv, 0, none⟩) Fa.length cv') = Fa.length := rfl
                  obtain ⟨v9, hv9⟩ : ∃ v9, Value.slice pc (Fa ++ [f]).length cc = v9 := ⟨_, rfl⟩
                  rw [hv9] at HRc hlc ⊢
                  clear hOc hgrc hbel hv9 x0 x1 x2
                  go_wp2_with fail
                  refine ⟨⟨HRc.out, by omega⟩, ?_⟩
                  rw [hlc, hl0]
                  omega
                · have z4 : decide ((Fa.length : Int) < 50 + (rb : Int)) = false := decide_eq_false (by omega)
                  have HRb : Hid (Rw 20002 g N w5.heap.size w (.slice (some ⟨gv, 0, none⟩) Fa.length cv') wb) := ⟨Fa, Aa, kb, HOb.out, hFa, hFb, HTa.out, by omega, HCb.out, HBb.out⟩
                  go_wp2_with fail
                  go_meet
                  exact ⟨c, rfl, hc, HRb.out, by omega⟩
            · have z3 : ((r9 : Int) == 0) = false := by rw [beq_eq_false_iff_ne]; omega
              clear h0
              go_wp2_with fail
              go_meet
              exact ⟨c, rfl, hc, HR9.out.mono, by omega⟩
        · have z1 : ((r7 : Int) == 1) = false := by rw [beq_eq_false_iff_ne]; omega
          clear h1
          go_wp2_with fail
          go_meet
          exact ⟨cols, rfl, by omega, HRW.out, by omega⟩
    case rest =>
      obtain ⟨c, rfl, hc21, ⟨F', A', k', hO', -, hF', hT', hk', hc', hb'⟩, hsz⟩ := hcut
      have HO' := hidG hO'
      have HT' := hidG hT'
      have HC' := hidG hc'
      have HB' := hidG hb'
      obtain ⟨p', q', rfl, -⟩ := own_form HO'.out.own
      clear hO' hT' hc' hb'
      go_wp2_with fail
      refine bodyPost_ret (v := .tuple #[.int .i64 (c : Nat), .slice p' F'.length q', .pointer (some ⟨g, 0, none⟩)]) ?_ rfl ⟨c, _, F', A', k', w5.heap.size, rfl, hc21, HO'.out, hg5, hsz, by omega, HT'.out, by omega, HC'.out, HB'.out⟩
      simp [results, Tryz.results25, go_sem]
end Go.Proofs.YtknfmkeipeikkaaGreatDoor.L

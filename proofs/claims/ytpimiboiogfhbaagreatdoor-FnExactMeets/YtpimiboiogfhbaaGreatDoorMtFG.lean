import Derived.Test.YtpimiboiogfhbaaGreatDoorMtDE
import Derived.Test.YtpimiboiogfhbaaGreatDoorQQ
namespace Go.Proofs.YtpimiboiogfhbaaGreatDoor.L
open Go.ChangeShapes Go.WideShapes Go.ChangeAt Go.RowKit
theorem numZ_kept {B : Nat} {W W' : World} {z0 : Int} {zn : Bool} {p : Option Addr} {l c : Nat} {x : Int} {m : Nat} (h : NumZ B W (.agg #[.int .i64 z0, .bool zn, .slice p l c]) x m) (hs : W.heap.size ≤ W'.heap.size) (hk : ∀ a, p = some a → 0 < l → W'.heap[a.block]? = W.heap[a.block]?) : NumZ B W' (.agg #[.int .i64 z0, .bool zn, .slice p l c]) x m := by
  obtain ⟨neg, t, ⟨h1, h2, h3⟩, r⟩ := h
  refine ⟨neg, t, ⟨h1, h2, ?_⟩, r⟩
  rcases h3 with ⟨h3, v, e, hL⟩ | h3
  · refine .inl ⟨h3, v, e, ?_⟩
    simp only [Value.agg.injEq, Array.mk.injEq, List.cons.injEq, Value.bool.injEq, and_true] at e
    obtain ⟨-, -, rfl⟩ := e
    obtain ⟨a, cap, e, k1, k2, k3, k4⟩ := hL
    simp only [Value.slice.injEq] at e
    obtain ⟨rfl, rfl, rfl⟩ := e
    refine ⟨p, c, rfl, k1, k2, k3, ?_⟩
    rcases k4 with k4 | ⟨b, off, rfl, hb1, hb2, hc⟩
    · exact .inl k4
    · exact .inr ⟨b, off, rfl, hb1, Nat.lt_of_lt_of_le hb2 hs, fun i hi => (World.cell?_of_block (a := ⟨b, off + i, none⟩) (hk ⟨b, off, none⟩ rfl (by omega))).trans (hc i hi)⟩
  · exact .inr h3
theorem numZ_from {B : Nat} {W : World} {z0 : Int} {zn : Bool} {p : Option Addr} {l c : Nat} {x : Int} {m : Nat} (h : NumZ B W (.agg #[.int .i64 z0, .bool zn, .slice p l c]) x m) : ∀ a, p = some a → 0 < l → B ≤ a.block ∧ a.block < W.heap.size := by
  obtain ⟨neg, t, ⟨h1, h2, h3⟩, r⟩ := h
  intro a ha hl
  rcases h3 with ⟨h3, v, e, hL⟩ | ⟨_, h3⟩
  · simp only [Value.agg.injEq, Array.mk.injEq, List.cons.injEq, Value.bool.injEq, and_true] at e
    obtain ⟨-, -, rfl⟩ := e
    obtain ⟨a', cap, e, k1, k2, k3, k4⟩ := hL
    simp only [Value.slice.injEq] at e
    obtain ⟨rfl, rfl, rfl⟩ := e
    rcases k4 with k4 | ⟨b, off, e, hb1, hb2, hc⟩
    · rw [k4] at hl; cases hl
    · rw [ha] at e; cases e; exact ⟨hb1, hb2⟩
  · simp only [Value.agg.injEq, Array.mk.injEq, List.cons.injEq, Value.slice.injEq, and_true] at h3
    obtain ⟨_, _, rfl, rfl, rfl⟩ := h3
    cases ha
/-- A quotient of the specification: its six cells and its value. -/
structure Qz (B : Nat) (W : World) (cs : List Value) (x y : Int) (o : Option Nat) : Prop where
  ex : ∃ (p0 : Int) (pn : Bool) (pa : Option Addr) (pl pc : Nat) (q0 : Int) (qn : Bool) (qa : Option Addr) (ql qc : Nat), cs = [.int .i64 p0, .bool pn, .slice pa pl pc, .int .i64 q0, .bool qn, .slice qa ql qc] ∧ NumZ B W (.agg #[.int .i64 p0, .bool pn, .slice pa pl pc]) x 20000 ∧ NumZ B W (.agg #[.int .i64 q0, .bool qn, .slice qa ql qc]) y 20000 ∧ (∀ a, pa = some a → 0 < pl → o ≠ some a.block) ∧ (∀ a, qa = some a → 0 < ql → o ≠ some a.block)
theorem Qz.kept {B : Nat} {W W' : World} {cs : List Value} {x y : Int} {o o' : Option Nat} (h : Qz B W cs x y o) (hs : W.heap.size ≤ W'.heap.size) (hk : ∀ b, B ≤ b → b < W.heap.size → o ≠ some b → W'.heap[b]? = W.heap[b]?) (ho : ∀ b, B ≤ b → b < W.heap.size → o ≠ some b → o' ≠ some b) : Qz B W' cs x y o' := by
  obtain ⟨p0, pn, pa, pl, pc, q0, qn, qa, ql, qc, e, h1, h2, h3, h4⟩ := h.ex
  exact ⟨p0, pn, pa, pl, pc, q0, qn, qa, ql, qc, e, numZ_kept h1 hs (fun a e1 e2 => hk _ (numZ_from h1 a e1 e2).1 (numZ_from h1 a e1 e2).2 (h3 a e1 e2)), numZ_kept h2 hs (fun a e1 e2 => hk _ (numZ_from h2 a e1 e2).1 (numZ_from h2 a e1 e2).2 (h4 a e1 e2)), fun a e1 e2 => ho _ (numZ_from h1 a e1 e2).1 (numZ_from h1 a e1 e2).2 (h3 a e1 e2), fun a e1 e2 => ho _ (numZ_from h2 a e1 e2).1 (numZ_from h2 a e1 e2).2 (h4 a e1 e2)⟩
theorem Qz.below {B : Nat} {W W' : World} {cs : List Value} {x y : Int} {o : Option Nat} (h : Qz B W cs x y o) (hb : Below W.heap.size W W') : Qz B W' cs x y o := h.kept hb.size (fun b _ hlt _ => hb.block b hlt) (fun _ _ _ h => h)
theorem Qz.mono {B B' : Nat} {W : World} {cs : List Value} {x y : Int} {o : Option Nat} (h : Qz B W cs x y o) (hb : B' ≤ B) : Qz B' W cs x y o := by
  obtain ⟨p0, pn, pa, pl, pc, q0, qn, qa, ql, qc, e, h1, h2, h3, h4⟩ := h.ex
  exact ⟨p0, pn, pa, pl, pc, q0, qn, qa, ql, qc, e, h1.mono' hb (Nat.le_refl _), h2.mono' hb (Nat.le_refl _), h3, h4⟩
theorem Qz.low {B : Nat} {W : World} {cs : List Value} {x y : Int} {o : Option Nat} (h : Qz B W cs x y o) (a : Addr) (u : Value) (ha : a.block < B) : Qz B (W.setCell a u) cs x y o :=
  h.kept (by simp) (fun b hb _ _ => Below.heap_setCell _ a _ _ (by omega)) (fun _ _ _ h => h)
theorem Qz.shape {B : Nat} {W : World} {cs : List Value} {x y : Int} {o : Option Nat} (h : Qz B W cs x y o) : ∃ (p0 : Int) (pn : Bool) (pa : Option Addr) (pl pc : Nat) (q0 : Int) (qn : Bool) (qa : Option Addr) (ql qc : Nat), cs = [.int .i64 p0, .bool pn, .slice pa pl pc, .int .i64 q0, .bool qn, .slice qa ql qc] := by
  obtain ⟨p0, pn, pa, pl, pc, q0, qn, qa, ql, qc, e, _⟩ := h.ex
  exact ⟨p0, pn, pa, pl, pc, q0, qn, qa, ql, qc, e⟩
theorem Qz.isQN {B : Nat} {W : World} {a b c d e f : Value} {x y : Int} {o : Option Nat} (h : Qz B W [a, b, c, d, e, f] x y o) : IsQN B W (.agg #[a, b, c, d, e, f]) x y := by
  obtain ⟨p0, pn, pa, pl, pc, q0, qn, qa, ql, qc, e, h1, h2, _⟩ := h.ex
  simp only [List.cons.injEq, and_true] at e
  obtain ⟨rfl, rfl, rfl, rfl, rfl, rfl⟩ := e
  exact ⟨p0, pn, pa, pl, pc, q0, qn, qa, ql, qc, rfl, h1, h2⟩
/-- Out of an answer of the specification. -/
theorem qz_of {B : Nat} {W : World} {z : Value} {x y : Int} (h : IsQN B W z x y) (o : Option Nat) (ho : ∀ b, B ≤ b → b < W.heap.size → o ≠ some b) : ∃ a b c d e f, z = .agg #[a, b, c, d, e, f] ∧ Qz B W [a, b, c, d, e, f] x y o := by
  obtain ⟨p0, pn, pa, pl, pc, q0, qn, qa, ql, qc, rfl, h1, h2⟩ := h
  exact ⟨_, _, _, _, _, _, rfl, p0, pn, pa, pl, pc, q0, qn, qa, ql, qc, rfl, h1, h2, fun a e1 e2 => ho _ (numZ_from h1 a e1 e2).1 (numZ_from h1 a e1 e2).2, fun a e1 e2 => ho _ (numZ_from h2 a e1 e2).1 (numZ_from h2 a e1 e2).2⟩
/-- A row of quotients of the specification. -/
def QRow (base : Nat) (W : World) (v : Value) (Q : List (Int × Int)) : Prop :=
  ∃ xs, W.ownsRow base 43 6 v Q.length xs ∧ ∀ i (_ : i < Q.length), Qz base W ((xs.drop (i * 6)).take 6) Q[i].1 Q[i].2 v.ownBlock
theorem QRow.below {base : Nat} {W W' : World} {v : Value} {Q : List (Int × Int)} (h : QRow base W v Q) (hb : Below W.heap.size W W') : QRow base W' v Q := by
  obtain ⟨xs, h1, h2⟩ := h
  exact ⟨xs, row_below h1 hb, fun i hi => (h2 i hi).below hb⟩
theorem QRow.mono {base base' : Nat} {W : World} {v : Value} {Q : List (Int × Int)} (h : QRow base W v Q) (hb : base' ≤ base) : QRow base' W v Q := by
  obtain ⟨xs, h1, h2⟩ := h
  exact ⟨xs, own_lower h1 hb, fun i hi => (h2 i hi).mono hb⟩
theorem QRow.low {base : Nat} {W : World} {v : Value} {Q : List (Int × Int)} (h : QRow base W v Q) (a : Addr) (u : Value) (ha : a.block < base) : QRow base (W.setCell a u) v Q := by
  obtain ⟨xs, h1, h2⟩ := h
  exact ⟨xs, ownsRow_setCell_below h1 ha u, fun i hi => (h2 i hi).low a u ha⟩
theorem QRow.nil (base : Nat) (W : World) : QRow base W (.slice none 0 0) [] := ⟨[], World.ownsRow_nil _ _ _ _, fun _ hi => absurd hi (Nat.not_lt_zero _)⟩
theorem QRow.form {base : Nat} {W : World} {v : Value} {Q : List (Int × Int)} (h : QRow base W v Q) : ∃ a b, v = .slice a Q.length b := by
  obtain ⟨xs, hr, _⟩ := h
  rcases hr.2 with ⟨e, e2⟩ | ⟨g, cap, cur, e, _⟩
  · exact ⟨none, 0, by rw [e, e2]⟩
  · exact ⟨_, _, e⟩
theorem info_q0 : (Tryz.prog.info? 43).map (fun i => (i.zero, i.size, i.bytes)) = some (some (.agg #[.int .i64 0, .bool false, .slice none 0 0, .int .i64 0, .bool false, .slice none 0 0]), 6, 80) := by kernel_rfl
theorem info_q : ∃ i : TypeInfo, Tryz.prog.info? 43 = some i ∧ i.zero = some (.agg #[.int .i64 0, .bool false, .slice none 0 0, .int .i64 0, .bool false, .slice none 0 0]) ∧ i.size = 6 ∧ i.bytes = 80 := info_parts info_q0
/-- A quotient behind a row of them. -/
theorem wpList_appQ {ops : Array Oper} {rest : List Oper} {o : Oper} {a : Act} {Q : Exit → Act → World → Prop} {W : World} {base : Nat} {v : Value} {N : List (Int × Int)} (hgd : o.guard = none) (s y : Operand)
    (ho : o.op = .call { callee := .builtin .append, args := #[s, y], argTypes := #[37, 37] }) (hs : a.eval s = v) (hown : QRow base W v N) {c0 c1 c2 c3 c4 c5 : Value} {x d : Int} (hz : Qz base W [c0, c1, c2, c3, c4, c5] x d v.ownBlock)
    (H : Nat) (hx : a.eval y = .slice (some ⟨H, 0, none⟩) 1 1) (hH : W.heap.size = H) (n : Nat) (hnl : N.length = n) (hn : n ≤ 1000000000) (hbase : base ≤ W.heap.size)
    (h : ∀ g cap W', QRow base W' (.slice (some ⟨g, 0, none⟩) (n + 1) cap) (N ++ [(x, d)]) → W.heap.size < W'.heap.size → W.grownBy W' v.ownBlock → wpList Tryz.prog ops Q rest (a.put o.dst (.slice (some ⟨g, 0, none⟩) (n + 1) cap)) W') :
    wpList Tryz.prog ops Q (o :: rest) a (W.alloc (.cells #[c0, c1, c2, c3, c4, c5] 43)) := by
  subst hH
  subst hnl
  obtain ⟨i0, hinf, hz0, hz1, hz2⟩ := info_q
  obtain ⟨xs, h1, h2⟩ := hown
  have hone : ∀ u ∈ [c0, c1, c2, c3, c4, c5], u.oneCell' = true := by
    obtain ⟨p0, pn, pa, pl, pc, q0, qn, qa, ql, qc, e⟩ := hz.shape
    rw [e]
    simp [Value.oneCell']
  refine wpList_append_lies _ hgd s y 37 ho base 43 i0 _ 6 80 Tryz.underlying37 hinf hz0 hz1 hz2 rfl (by decide) v N.length xs hs (h1.alloc _) ⟨W.heap.size, 0, none⟩ 1 1 [c0, c1, c2, c3, c4, c5] hx rfl
    (World.news_of_block (cs := #[c0, c1, c2, c3, c4, c5]) (t := 43) (fr := (0, 0)) (heap_alloc_new W _)) hone (by decide) (by unfold maxLen; omega) (by omega) (by simp; omega) _ rfl ?_
  intro g cap W' k1 k2 k3 k4
  have hsz : W.heap.size < W'.heap.size := by have := k2.size; simp at this; omega
  have hkeep : ∀ b, base ≤ b → b < W.heap.size → v.ownBlock ≠ some b → W'.heap[b]? = W.heap[b]? := fun b _ hb hne => by
    rw [k2.block b (by simp; omega) (by intro e; exact hne e.symm)]
    exact (below_alloc W _).block b hb
  have hgne : ∀ b, base ≤ b → b < W.heap.size → v.ownBlock ≠ some b → (Value.slice (some ⟨g, 0, none⟩) (N.length + 1) cap).ownBlock ≠ some b := fun b _ hb hne e => by
    have e : some g = some b := e
    injection e with e
    rcases k3 with k3 | k3
    · exact hne (by rw [k3, e])
    · simp at k3; omega
  have hgr : W.grownBy W' v.ownBlock := (World.grownBy_alloc W _ v.ownBlock).trans k2
  refine h g cap W' ⟨_, by rw [List.length_append]; exact k1, fun i hi => ?_⟩ hsz hgr
  rw [List.length_append] at hi
  have hx : xs.length = N.length * 6 := h1.1
  by_cases e : i < N.length
  · rw [List.getElem_append_left e, List.drop_append_of_le_length (by omega), List.take_append_of_le_length (by simp; omega)]
    exact (h2 i e).kept (Nat.le_of_lt hsz) hkeep hgne
  · have hie : i = N.length := by simp at hi; omega
    subst hie
    rw [List.drop_append_of_le_length (by omega), List.drop_eq_nil_of_le (by omega), List.nil_append, List.getElem_append_right (Nat.le_refl _)]
    simp only [Nat.sub_self, List.getElem_cons_zero]
    exact hz.kept (Nat.le_of_lt hsz) hkeep hgne
/-- The same in a region that draws its order. -/
theorem step_appQ {ops : Array Oper} {o : Oper} {a : Act} {K : Act → World → Prop} {Q : Exit → Act → World → Prop} {E : Prop} {W : World} {base : Nat} {v : Value} {N : List (Int × Int)} (hgd : o.guard = none) (s y : Operand)
    (ho : o.op = .call { callee := .builtin .append, args := #[s, y], argTypes := #[37, 37] }) (hs : a.eval s = v) (hown : QRow base W v N) {c0 c1 c2 c3 c4 c5 : Value} {x d : Int} (hz : Qz base W [c0, c1, c2, c3, c4, c5] x d v.ownBlock)
    (H : Nat) (hx : a.eval y = .slice (some ⟨H, 0, none⟩) 1 1) (hH : W.heap.size = H) (n : Nat) (hnl : N.length = n) (hn : n ≤ 1000000000) (hbase : base ≤ W.heap.size)
    (h : ∀ g cap W', QRow base W' (.slice (some ⟨g, 0, none⟩) (n + 1) cap) (N ++ [(x, d)]) → W.heap.size < W'.heap.size → W.grownBy W' v.ownBlock → K (a.put o.dst (.slice (some ⟨g, 0, none⟩) (n + 1) cap)) W') :
    if Region.wanted o (yielded ops a.tmps) = true then Oper.wp Tryz.prog o a (W.alloc (.cells #[c0, c1, c2, c3, c4, c5] 43)) K Q else E := by
  subst hH
  subst hnl
  obtain ⟨i0, hinf, hz0, hz1, hz2⟩ := info_q
  obtain ⟨xs, h1, h2⟩ := hown
  have hone : ∀ u ∈ [c0, c1, c2, c3, c4, c5], u.oneCell' = true := by
    obtain ⟨p0, pn, pa, pl, pc, q0, qn, qa, ql, qc, e⟩ := hz.shape
    rw [e]
    simp [Value.oneCell']
  refine step_append_lies _ hgd s y 37 ho base 43 i0 _ 6 80 Tryz.underlying37 hinf hz0 hz1 hz2 rfl (by decide) v N.length xs hs (h1.alloc _) ⟨W.heap.size, 0, none⟩ 1 1 [c0, c1, c2, c3, c4, c5] hx rfl
    (World.news_of_block (cs := #[c0, c1, c2, c3, c4, c5]) (t := 43) (fr := (0, 0)) (heap_alloc_new W _)) hone (by decide) (by unfold maxLen; omega) (by omega) (by simp; omega) _ rfl ?_
  intro g cap W' k1 k2 k3 k4
  have hsz : W.heap.size < W'.heap.size := by have := k2.size; simp at this; omega
  have hkeep : ∀ b, base ≤ b → b < W.heap.size → v.ownBlock ≠ some b → W'.heap[b]? = W.heap[b]? := fun b _ hb hne => by
    rw [k2.block b (by simp; omega) (by intro e; exact hne e.symm)]
    exact (below_alloc W _).block b hb
  have hgne : ∀ b, base ≤ b → b < W.heap.size → v.ownBlock ≠ some b → (Value.slice (some ⟨g, 0, none⟩) (N.length + 1) cap).ownBlock ≠ some b := fun b _ hb hne e => by
    have e : some g = some b := e
    injection e with e
    rcases k3 with k3 | k3
    · exact hne (by rw [k3, e])
    · simp at k3; omega
  have hgr : W.grownBy W' v.ownBlock := (World.grownBy_alloc W _ v.ownBlock).trans k2
  refine h g cap W' ⟨_, by rw [List.length_append]; exact k1, fun i hi => ?_⟩ hsz hgr
  rw [List.length_append] at hi
  have hx : xs.length = N.length * 6 := h1.1
  by_cases e : i < N.length
  · rw [List.getElem_append_left e, List.drop_append_of_le_length (by omega), List.take_append_of_le_length (by simp; omega)]
    exact (h2 i e).kept (Nat.le_of_lt hsz) hkeep hgne
  · have hie : i = N.length := by simp at hi; omega
    subst hie
    rw [List.drop_append_of_le_length (by omega), List.drop_eq_nil_of_le (by omega), List.nil_append, List.getElem_append_right (Nat.le_refl _)]
    simp only [Nat.sub_self, List.getElem_cons_zero]
    exact hz.kept (Nat.le_of_lt hsz) hkeep hgne
end Go.Proofs.YtpimiboiogfhbaaGreatDoor.L
namespace Go.Proofs.YtpimiboiogfhbaaGreatDoor.L
open Go.ChangeShapes Go.WideShapes Go.ChangeAt Go.RowKit
theorem int_noCut (s : ByteArray) (h : isIntB s = true) : IsCut s none := by
  intro j e
  obtain ⟨hdig, _, _⟩ := isIntB_dig s h
  have hm : (47 : UInt8) ∈ s.data.toList := List.mem_of_getElem? e
  have hd : ∀ c ∈ s.data.toList, c = 45 ∨ dig c := by
    intro c hc
    cases hn : isNeg s with
    | false => rw [dgs_pos s hn] at hdig; exact .inr (hdig c hc)
    | true =>
      rw [dgs_neg s hn] at hdig
      obtain ⟨h0, h1⟩ := isNeg_yes s hn
      obtain ⟨i, hi, rfl⟩ := List.getElem_of_mem hc
      by_cases hi0 : i = 0
      · subst hi0
        left
        have : s[0] = 45 := UInt8.toNat_inj.1 h1
        exact this
      · right
        refine hdig _ ?_
        rw [Lib.extract_data]
        have hsz : s.data.toList.length = s.size := by simp
        rw [List.mem_iff_getElem]
        refine ⟨i - 1, by simp; omega, ?_⟩
        simp [show i - 1 + 1 = i by omega]
  rcases hd 47 hm with h | h
  · exact absurd h (by decide)
  · unfold dig at h
    have : (47 : UInt8).toNat = 47 := rfl
    omega
theorem ratV_text {s : List UInt8} (h : textOk s = true) : IsCut (strOf s) none ∧ RatV (strOf s) none (numT (strOf s)) 1 := by
  unfold textOk at h
  have hi := (Bool.and_eq_true_iff.1 h).1
  exact ⟨int_noCut _ hi, hi, rfl, rfl⟩
/-- A text read by the specification. -/
theorem l2ReadI_any (s : List UInt8) (w : World) (hs : s.length ≤ 1048576) (ht : textOk s = true) :
    Calls Tryz.prog 15 #[.string (strOf s)] w fun e w' => ∃ z, e = .returned z ∧ IsQN w.heap.size w' z (numT (strOf s)) 1 ∧ Below w.heap.size w w' :=
  l2Read_any _ none _ _ w (by rw [strOf_size]; unfold maxLen; omega) (ratV_text ht).1 (ratV_text ht).2
/-- A row in numbers. -/
structure Rz (B : Nat) (W : World) (cs : List Value) (f : Lr) : Prop where
  ex : ∃ (va : Value) (c0 c1 c2 c3 c4 c5 : Value), cs = [va, .bool f.st, c0, c1, c2, c3, c4, c5] ∧ QRow B W va (f.cs.map (fun s => (numT (strOf s), 1))) ∧ Qz B W [c0, c1, c2, c3, c4, c5] (numT (strOf f.bd)) 1 none
theorem Rz.below {B : Nat} {W W' : World} {cs : List Value} {f : Lr} (h : Rz B W cs f) (hb : Below W.heap.size W W') : Rz B W' cs f := by
  obtain ⟨va, c0, c1, c2, c3, c4, c5, e, h1, h2⟩ := h.ex
  exact ⟨va, c0, c1, c2, c3, c4, c5, e, h1.below hb, h2.below hb⟩
theorem Rz.low {B : Nat} {W : World} {cs : List Value} {f : Lr} (h : Rz B W cs f) (a : Addr) (u : Value) (ha : a.block < B) : Rz B (W.setCell a u) cs f := by
  obtain ⟨va, c0, c1, c2, c3, c4, c5, e, h1, h2⟩ := h.ex
  exact ⟨va, c0, c1, c2, c3, c4, c5, e, h1.low a u ha, h2.low a u ha⟩
def RRow (base B : Nat) (W : World) (v : Value) (F : List Lr) : Prop :=
  ∃ xs, W.ownsRow base 63 8 v F.length xs ∧ ∀ i (_ : i < F.length), Rz B W ((xs.drop (i * 8)).take 8) F[i]
theorem RRow.below {base B : Nat} {W W' : World} {v : Value} {F : List Lr} (h : RRow base B W v F) (hb : Below W.heap.size W W') : RRow base B W' v F := by
  obtain ⟨xs, h1, h2⟩ := h
  exact ⟨xs, row_below h1 hb, fun i hi => (h2 i hi).below hb⟩
end Go.Proofs.YtpimiboiogfhbaaGreatDoor.L

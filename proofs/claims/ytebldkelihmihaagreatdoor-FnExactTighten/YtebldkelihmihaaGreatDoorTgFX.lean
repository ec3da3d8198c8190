import Derived.Deep.AppendLies
import Derived.Test.YtebldkelihmihaaGreatDoorLrAB
import Derived.Test.YtebldkelihmihaaGreatDoorLrGH
import Derived.Test.YtebldkelihmihaaGreatDoorU4
import Derived.Test.YtebldkelihmihaaGreatDoorSumT
import Derived.Test.YtebldkelihmihaaGreatDoorU1
import Derived.Test.YtebldkelihmihaaGreatDoorU7
import Derived.Ground.SlgnProg
import Derived.Shelf.SlicesE.Clone
namespace Go.Proofs.YtebldkelihmihaaGreatDoor.L
open Go.ChangeShapes Go.WideShapes Go.ChangeAt Go.RowKit
theorem numZ_kept {B : Nat} {W W' : World} {z0 : Int} {zn : Bool} {p : Option Addr} {l c : Nat} {x : Int} {m : Nat} (h : NumZ B W (.agg #[.int .i64 z0, .bool zn, .slice p l c]) x m) (hs : W.heap.size ≤ W'.heap.size) (hk : ∀ a, p = some a → 0 < l → W'.heap[a.block]? = W.heap[a.block]?) : NumZ B W' (.agg #[.int .i64 z0, .bool zn, .slice p l c]) x m := by
  obtain ⟨neg, t, ⟨h1, h2, h3⟩, r⟩ := h
  refine ⟨neg, t, ⟨h1, h2, ?_⟩, r⟩
  rcases h3 with ⟨h3, v, e, hL⟩ | h3
  · refine .inl ⟨h3, v, e, ?_⟩
    simp only [Value.agg.injEq, Array.mk.injEq, List.cons.injEq, Value.bool.injEq, and_true] at e
    obtain ⟨-, -, rfl⟩ := e
    obtain ⟨a, cap, e, k1, k2, k3, k4⟩ := hL
    simp only [Value.slice.injEq] at e
    obtain ⟨rfl, rfl, rfl⟩ := e
    refine ⟨p, c, rfl, k1, k2, k3, ?_⟩
    rcases k4 with k4 | ⟨b, off, rfl, hb1, hb2, hc⟩
    · exact .inl k4
    · exact .inr ⟨b, off, rfl, hb1, Nat.lt_of_lt_of_le hb2 hs, fun i hi => (World.cell?_of_block (a := ⟨b, off + i, none⟩) (hk ⟨b, off, none⟩ rfl (by omega))).trans (hc i hi)⟩
  · exact .inr h3
theorem numZ_from {B : Nat} {W : World} {z0 : Int} {zn : Bool} {p : Option Addr} {l c : Nat} {x : Int} {m : Nat} (h : NumZ B W (.agg #[.int .i64 z0, .bool zn, .slice p l c]) x m) : ∀ a, p = some a → 0 < l → B ≤ a.block ∧ a.block < W.heap.size := by
  obtain ⟨neg, t, ⟨h1, h2, h3⟩, r⟩ := h
  intro a ha hl
  rcases h3 with ⟨h3, v, e, hL⟩ | ⟨_, h3⟩
  · simp only [Value.agg.injEq, Array.mk.injEq, List.cons.injEq, Value.bool.injEq, and_true] at e
    obtain ⟨-, -, rfl⟩ := e
    obtain ⟨a', cap, e, k1, k2, k3, k4⟩ := hL
    simp only [Value.slice.injEq] at e
    obtain ⟨rfl, rfl, rfl⟩ := e
    rcases k4 with k4 | ⟨b, off, e, hb1, hb2, hc⟩
    · rw [k4] at hl; cases hl
    · rw [ha] at e; cases e; exact ⟨hb1, hb2⟩
  · simp only [Value.agg.injEq, Array.mk.injEq, List.cons.injEq, Value.slice.injEq, and_true] at h3
    obtain ⟨_, _, rfl, rfl, rfl⟩ := h3
    cases ha
structure Qz (B : Nat) (W : World) (cs : List Value) (x y : Int) (o : Option Nat) : Prop where
  ex : ∃ (p0 : Int) (pn : Bool) (pa : Option Addr) (pl pc : Nat) (q0 : Int) (qn : Bool) (qa : Option Addr) (ql qc : Nat), cs = [.int .i64 p0, .bool pn, .slice pa pl pc, .int .i64 q0, .bool qn, .slice qa ql qc] ∧ NumZ B W (.agg #[.int .i64 p0, .bool pn, .slice pa pl pc]) x 1000 ∧ NumZ B W (.agg #[.int .i64 q0, .bool qn, .slice qa ql qc]) y 1000 ∧ (∀ a, pa = some a → 0 < pl → o ≠ some a.block) ∧ (∀ a, qa = some a → 0 < ql → o ≠ some a.block)
theorem Qz.kept {B : Nat} {W W' : World} {cs : List Value} {x y : Int} {o o' : Option Nat} (h : Qz B W cs x y o) (hs : W.heap.size ≤ W'.heap.size) (hk : ∀ b, B ≤ b → b < W.heap.size → o ≠ some b → W'.heap[b]? = W.heap[b]?) (ho : ∀ b, B ≤ b → b < W.heap.size → o ≠ some b → o' ≠ some b) : Qz B W' cs x y o' := by
  obtain ⟨p0, pn, pa, pl, pc, q0, qn, qa, ql, qc, e, h1, h2, h3, h4⟩ := h.ex
  exact ⟨p0, pn, pa, pl, pc, q0, qn, qa, ql, qc, e, numZ_kept h1 hs (fun a e1 e2 => hk _ (numZ_from h1 a e1 e2).1 (numZ_from h1 a e1 e2).2 (h3 a e1 e2)), numZ_kept h2 hs (fun a e1 e2 => hk _ (numZ_from h2 a e1 e2).1 (numZ_from h2 a e1 e2).2 (h4 a e1 e2)), fun a e1 e2 => ho _ (numZ_from h1 a e1 e2).1 (numZ_from h1 a e1 e2).2 (h3 a e1 e2), fun a e1 e2 => ho _ (numZ_from h2 a e1 e2).1 (numZ_from h2 a e1 e2).2 (h4 a e1 e2)⟩
theorem Qz.below {B : Nat} {W W' : World} {cs : List Value} {x y : Int} {o : Option Nat} (h : Qz B W cs x y o) (hb : Below W.heap.size W W') : Qz B W' cs x y o := h.kept hb.size (fun b _ hlt _ => hb.block b hlt) (fun _ _ _ h => h)
theorem Qz.mono {B B' : Nat} {W : World} {cs : List Value} {x y : Int} {o : Option Nat} (h : Qz B W cs x y o) (hb : B' ≤ B) : Qz B' W cs x y o := by
  obtain ⟨p0, pn, pa, pl, pc, q0, qn, qa, ql, qc, e, h1, h2, h3, h4⟩ := h.ex
  exact ⟨p0, pn, pa, pl, pc, q0, qn, qa, ql, qc, e, h1.mono' hb (Nat.le_refl _), h2.mono' hb (Nat.le_refl _), h3, h4⟩
theorem Qz.low {B : Nat} {W : World} {cs : List Value} {x y : Int} {o : Option Nat} (h : Qz B W cs x y o) (a : Addr) (u : Value) (ha : a.block < B) : Qz B (W.setCell a u) cs x y o :=
  h.kept (by simp) (fun b hb _ _ => Below.heap_setCell _ a _ _ (by omega)) (fun _ _ _ h => h)
theorem Qz.shape {B : Nat} {W : World} {cs : List Value} {x y : Int} {o : Option Nat} (h : Qz B W cs x y o) : ∃ (p0 : Int) (pn : Bool) (pa : Option Addr) (pl pc : Nat) (q0 : Int) (qn : Bool) (qa : Option Addr) (ql qc : Nat), cs = [.int .i64 p0, .bool pn, .slice pa pl pc, .int .i64 q0, .bool qn, .slice qa ql qc] := by
  obtain ⟨p0, pn, pa, pl, pc, q0, qn, qa, ql, qc, e, _⟩ := h.ex
  exact ⟨p0, pn, pa, pl, pc, q0, qn, qa, ql, qc, e⟩
theorem Qz.isQN {B : Nat} {W : World} {a b c d e f : Value} {x y : Int} {o : Option Nat} (h : Qz B W [a, b, c, d, e, f] x y o) : IsQN B W (.agg #[a, b, c, d, e, f]) x y := by
  obtain ⟨p0, pn, pa, pl, pc, q0, qn, qa, ql, qc, e, h1, h2, _⟩ := h.ex
  simp only [List.cons.injEq, and_true] at e
  obtain ⟨rfl, rfl, rfl, rfl, rfl, rfl⟩ := e
  exact ⟨p0, pn, pa, pl, pc, q0, qn, qa, ql, qc, rfl, h1, h2⟩
theorem qz_of {B : Nat} {W : World} {z : Value} {x y : Int} (h : IsQN B W z x y) (o : Option Nat) (ho : ∀ b, B ≤ b → b < W.heap.size → o ≠ some b) : ∃ a b c d e f, z = .agg #[a, b, c, d, e, f] ∧ Qz B W [a, b, c, d, e, f] x y o := by
  obtain ⟨p0, pn, pa, pl, pc, q0, qn, qa, ql, qc, rfl, h1, h2⟩ := h
  exact ⟨_, _, _, _, _, _, rfl, p0, pn, pa, pl, pc, q0, qn, qa, ql, qc, rfl, h1, h2, fun a e1 e2 => ho _ (numZ_from h1 a e1 e2).1 (numZ_from h1 a e1 e2).2, fun a e1 e2 => ho _ (numZ_from h2 a e1 e2).1 (numZ_from h2 a e1 e2).2⟩
def QRow (base : Nat) (W : World) (v : Value) (Q : List (Int × Int)) : Prop :=
  ∃ xs, W.ownsRow base 74 6 v Q.length xs ∧ ∀ i (_ : i < Q.length), Qz base W ((xs.drop (i * 6)).take 6) Q[i].1 Q[i].2 v.ownBlock
theorem QRow.below {base : Nat} {W W' : World} {v : Value} {Q : List (Int × Int)} (h : QRow base W v Q) (hb : Below W.heap.size W W') : QRow base W' v Q := by
  obtain ⟨xs, h1, h2⟩ := h
  exact ⟨xs, row_below h1 hb, fun i hi => (h2 i hi).below hb⟩
theorem QRow.mono {base base' : Nat} {W : World} {v : Value} {Q : List (Int × Int)} (h : QRow base W v Q) (hb : base' ≤ base) : QRow base' W v Q := by
  obtain ⟨xs, h1, h2⟩ := h
  exact ⟨xs, own_lower h1 hb, fun i hi => (h2 i hi).mono hb⟩
theorem QRow.low {base : Nat} {W : World} {v : Value} {Q : List (Int × Int)} (h : QRow base W v Q) (a : Addr) (u : Value) (ha : a.block < base) : QRow base (W.setCell a u) v Q := by
  obtain ⟨xs, h1, h2⟩ := h
  exact ⟨xs, ownsRow_setCell_below h1 ha u, fun i hi => (h2 i hi).low a u ha⟩
theorem QRow.nil (base : Nat) (W : World) : QRow base W (.slice none 0 0) [] := ⟨[], World.ownsRow_nil _ _ _ _, fun _ hi => absurd hi (Nat.not_lt_zero _)⟩
theorem QRow.form {base : Nat} {W : World} {v : Value} {Q : List (Int × Int)} (h : QRow base W v Q) : ∃ a b, v = .slice a Q.length b := by
  obtain ⟨xs, hr, _⟩ := h
  rcases hr.2 with ⟨e, e2⟩ | ⟨g, cap, cur, e, _⟩
  · exact ⟨none, 0, by rw [e, e2]⟩
  · exact ⟨_, _, e⟩
theorem info_q0 : (Tryz.prog.info? 74).map (fun i => (i.zero, i.size, i.bytes)) = some (some (.agg #[.int .i64 0, .bool false, .slice none 0 0, .int .i64 0, .bool false, .slice none 0 0]), 6, 80) := by kernel_rfl
theorem info_q : ∃ i : TypeInfo, Tryz.prog.info? 74 = some i ∧ i.zero = some (.agg #[.int .i64 0, .bool false, .slice none 0 0, .int .i64 0, .bool false, .slice none 0 0]) ∧ i.size = 6 ∧ i.bytes = 80 := info_parts info_q0
theorem step_appQ {ops : Array Oper} {o : Oper} {a : Act} {K : Act → World → Prop} {Q : Exit → Act → World → Prop} {E : Prop} {W : World} {base : Nat} {v : Value} {N : List (Int × Int)} (hgd : o.guard = none) (s y : Operand)
    (ho : o.op = .call { callee := .builtin .append, args := #[s, y], argTypes := #[69, 69] }) (hs : a.eval s = v) (hown : QRow base W v N) {c0 c1 c2 c3 c4 c5 : Value} {x d : Int} (hz : Qz base W [c0, c1, c2, c3, c4, c5] x d v.ownBlock)
    (H : Nat) (hx : a.eval y = .slice (some ⟨H, 0, none⟩) 1 1) (hH : W.heap.size = H) (n : Nat) (hnl : N.length = n) (hn : n ≤ 1000000000) (hbase : base ≤ W.heap.size)
    (h : ∀ g cap W', QRow base W' (.slice (some ⟨g, 0, none⟩) (n + 1) cap) (N ++ [(x, d)]) → W.heap.size < W'.heap.size → W.grownBy W' v.ownBlock → K (a.put o.dst (.slice (some ⟨g, 0, none⟩) (n + 1) cap)) W') :
    if Region.wanted o (yielded ops a.tmps) = true then Oper.wp Tryz.prog o a (W.alloc (.cells #[c0, c1, c2, c3, c4, c5] 74)) K Q else E := by
  subst hH
  subst hnl
  obtain ⟨i0, hinf, hz0, hz1, hz2⟩ := info_q
  obtain ⟨xs, h1, h2⟩ := hown
  have hone : ∀ u ∈ [c0, c1, c2, c3, c4, c5], u.oneCell' = true := by
    obtain ⟨p0, pn, pa, pl, pc, q0, qn, qa, ql, qc, e⟩ := hz.shape
    rw [e]
    simp [Value.oneCell']
  refine step_append_lies _ hgd s y 69 ho base 74 i0 _ 6 80 Tryz.underlying69 hinf hz0 hz1 hz2 rfl (by decide) v N.length xs hs (h1.alloc _) ⟨W.heap.size, 0, none⟩ 1 1 [c0, c1, c2, c3, c4, c5] hx rfl
    (World.news_of_block (cs := #[c0, c1, c2, c3, c4, c5]) (t := 74) (fr := (0, 0)) (heap_alloc_new W _)) hone (by decide) (by unfold maxLen; omega) (by omega) (by simp; omega) _ rfl ?_
  intro g cap W' k1 k2 k3 k4
  have hsz : W.heap.size < W'.heap.size := by have := k2.size; simp at this; omega
  have hkeep : ∀ b, base ≤ b → b < W.heap.size → v.ownBlock ≠ some b → W'.heap[b]? = W.heap[b]? := fun b _ hb hne => by
    rw [k2.block b (by simp; omega) (by intro e; exact hne e.symm)]
    exact (below_alloc W _).block b hb
  have hgne : ∀ b, base ≤ b → b < W.heap.size → v.ownBlock ≠ some b → (Value.slice (some ⟨g, 0, none⟩) (N.length + 1) cap).ownBlock ≠ some b := fun b _ hb hne e => by
    have e : some g = some b := e
    injection e with e
    rcases k3 with k3 | k3
    · exact hne (by rw [k3, e])
    · simp at k3; omega
  have hgr : W.grownBy W' v.ownBlock := (World.grownBy_alloc W _ v.ownBlock).trans k2
  refine h g cap W' ⟨_, by rw [List.length_append]; exact k1, fun i hi => ?_⟩ hsz hgr
  rw [List.length_append] at hi
  have hx : xs.length = N.length * 6 := h1.1
  by_cases e : i < N.length
  · rw [List.getElem_append_left e, List.drop_append_of_le_length (by omega), List.take_append_of_le_length (by simp; omega)]
    exact (h2 i e).kept (Nat.le_of_lt hsz) hkeep hgne
  · have hie : i = N.length := by simp at hi; omega
    subst hie
    rw [List.drop_append_of_le_length (by omega), List.drop_eq_nil_of_le (by omega), List.nil_append, List.getElem_append_right (Nat.le_refl _)]
    simp only [Nat.sub_self, List.getElem_cons_zero]
    exact hz.kept (Nat.le_of_lt hsz) hkeep hgne
theorem int_noCut (s : ByteArray) (h : isIntB s = true) : IsCut s none := by
  intro j e
  obtain ⟨hdig, _, _⟩ := isIntB_dig s h
  have hm : (47 : UInt8) ∈ s.data.toList := List.mem_of_getElem? e
  have hd : ∀ c ∈ s.data.toList, c = 45 ∨ dig c := by
    intro c hc
    cases hn : isNeg s with
    | false => rw [dgs_pos s hn] at hdig; exact .inr (hdig c hc)
    | true =>
      rw [dgs_neg s hn] at hdig
      obtain ⟨h0, h1⟩ := isNeg_yes s hn
      obtain ⟨i, hi, rfl⟩ := List.getElem_of_mem hc
      by_cases hi0 : i = 0
      · subst hi0
        left
        have : s[0] = 45 := UInt8.toNat_inj.1 h1
        exact this
      · right
        refine hdig _ ?_
        rw [Lib.extract_data]
        have hsz : s.data.toList.length = s.size := by simp
        rw [List.mem_iff_getElem]
        refine ⟨i - 1, by simp; omega, ?_⟩
        simp [show i - 1 + 1 = i by omega]
  rcases hd 47 hm with h | h
  · exact absurd h (by decide)
  · unfold dig at h
    have : (47 : UInt8).toNat = 47 := rfl
    omega
theorem ratV_text {s : List UInt8} (h : textOk s = true) : IsCut (strOf s) none ∧ RatV (strOf s) none (numT (strOf s)) 1 := by
  unfold textOk at h
  have hi := (Bool.and_eq_true_iff.1 h).1
  exact ⟨int_noCut _ hi, hi, rfl, rfl⟩
theorem l2ReadI_any (s : List UInt8) (w : World) (hs : s.length ≤ 1048576) (ht : textOk s = true) :
    Calls Tryz.prog 42 #[.string (strOf s)] w fun e w' => ∃ z, e = .returned z ∧ IsQN w.heap.size w' z (numT (strOf s)) 1 ∧ Below w.heap.size w w' :=
  l2Read_any _ none _ _ w (by rw [strOf_size]; unfold maxLen; omega) (ratV_text ht).1 (ratV_text ht).2
structure Nr where
  cs : List Int
  st : Bool
  bd : Int
def nrOf (f : Lr) : Nr := ⟨f.cs.map (fun s => numT (strOf s)), f.st, numT (strOf f.bd)⟩
structure Rz (B : Nat) (W : World) (cs : List Value) (f : Nr) : Prop where
  ex : ∃ (va : Value) (c0 c1 c2 c3 c4 c5 : Value), cs = [va, .bool f.st, c0, c1, c2, c3, c4, c5] ∧ QRow B W va (f.cs.map (fun x => (x, 1))) ∧ Qz B W [c0, c1, c2, c3, c4, c5] f.bd 1 none
theorem Rz.below {B : Nat} {W W' : World} {cs : List Value} {f : Nr} (h : Rz B W cs f) (hb : Below W.heap.size W W') : Rz B W' cs f := by
  obtain ⟨va, c0, c1, c2, c3, c4, c5, e, h1, h2⟩ := h.ex
  exact ⟨va, c0, c1, c2, c3, c4, c5, e, h1.below hb, h2.below hb⟩
theorem Rz.low {B : Nat} {W : World} {cs : List Value} {f : Nr} (h : Rz B W cs f) (a : Addr) (u : Value) (ha : a.block < B) : Rz B (W.setCell a u) cs f := by
  obtain ⟨va, c0, c1, c2, c3, c4, c5, e, h1, h2⟩ := h.ex
  exact ⟨va, c0, c1, c2, c3, c4, c5, e, h1.low a u ha, h2.low a u ha⟩
def RRow (base B : Nat) (W : World) (v : Value) (F : List Nr) : Prop :=
  ∃ xs, W.ownsRow base 76 8 v F.length xs ∧ ∀ i (_ : i < F.length), Rz B W ((xs.drop (i * 8)).take 8) F[i]
theorem RRow.below {base B : Nat} {W W' : World} {v : Value} {F : List Nr} (h : RRow base B W v F) (hb : Below W.heap.size W W') : RRow base B W' v F := by
  obtain ⟨xs, h1, h2⟩ := h
  exact ⟨xs, row_below h1 hb, fun i hi => (h2 i hi).below hb⟩
theorem info_lr0 : (Tryz.prog.info? 76).map (fun i => (i.zero, i.size, i.bytes)) = some (some (.agg #[.slice none 0 0, .bool false, .int .i64 0, .bool false, .slice none 0 0, .int .i64 0, .bool false, .slice none 0 0]), 8, 112) := by kernel_rfl
theorem info_lr : ∃ i : TypeInfo, Tryz.prog.info? 76 = some i ∧ i.zero = some (.agg #[.slice none 0 0, .bool false, .int .i64 0, .bool false, .slice none 0 0, .int .i64 0, .bool false, .slice none 0 0]) ∧ i.size = 8 ∧ i.bytes = 112 := info_parts info_lr0
theorem bx_grown {W W' : World} {g : Nat} {l : List Value} {o : Option Nat} (h : Bx W g l) (hg : W.grownBy W' o) (ho : o ≠ some g) : Bx W' g l := by
  have hlt := h.lt
  obtain ⟨ty, h⟩ := h
  exact ⟨ty, (hg.block g hlt (Ne.symm ho)).trans h⟩
theorem qz_mk {B : Nat} {W : World} {a b c d e f : Value} {x y : Int} (h : IsQN B W (.agg #[a, b, c, d, e, f]) x y) (o : Option Nat) (ho : ∀ b, B ≤ b → b < W.heap.size → o ≠ some b) : Qz B W [a, b, c, d, e, f] x y o := by
  obtain ⟨a', b', c', d', e', f', e, hq⟩ := qz_of h o ho
  simp only [Value.agg.injEq, Array.mk.injEq, List.cons.injEq, and_true] at e
  obtain ⟨rfl, rfl, rfl, rfl, rfl, rfl⟩ := e
  exact hq
structure RS (W1 wc : World) (bx : Nat) (va : Value) (rest : List Value) (Q : List (Int × Int)) (W : World) : Prop where
  box : Bx W bx (va :: rest)
  row : QRow wc.heap.size W va Q
  same : ∀ b, b < wc.heap.size → b ≠ bx → W.heap[b]? = wc.heap[b]?
  size : wc.heap.size ≤ W.heap.size
  bel : Below W1.heap.size W1 W
theorem Bx.c8 {W : World} {g : Nat} {a0 a1 a2 a3 a4 a5 a6 a7 : Value} (h : Bx W g [a0, a1, a2, a3, a4, a5, a6, a7]) : W.cell? ⟨g, 0, none⟩ = some a0 ∧ W.cell? ⟨g, 1, none⟩ = some a1 ∧ W.cell? ⟨g, 2, none⟩ = some a2 ∧ W.cell? ⟨g, 3, none⟩ = some a3 ∧ W.cell? ⟨g, 4, none⟩ = some a4 ∧ W.cell? ⟨g, 5, none⟩ = some a5 ∧ W.cell? ⟨g, 6, none⟩ = some a6 ∧ W.cell? ⟨g, 7, none⟩ = some a7 := ⟨h.cell 0, h.cell 1, h.cell 2, h.cell 3, h.cell 4, h.cell 5, h.cell 6, h.cell 7⟩
theorem set8_same (xs : List Value) (i : Nat) (h : i * 8 + 8 ≤ xs.length) (a0 a1 a2 a3 a4 a5 a6 a7 : Value) : (((((((((xs.set (i * 8) a0).set (i * 8 + 1) a1).set (i * 8 + 2) a2).set (i * 8 + 3) a3).set (i * 8 + 4) a4).set (i * 8 + 5) a5).set (i * 8 + 6) a6).set (i * 8 + 7) a7).drop (i * 8)).take 8 = [a0, a1, a2, a3, a4, a5, a6, a7] := by
  apply List.ext_getElem?
  intro n
  by_cases hn : n < 8
  · rw [List.getElem?_take_of_lt hn, List.getElem?_drop]
    have hc : n = 0 ∨ n = 1 ∨ n = 2 ∨ n = 3 ∨ n = 4 ∨ n = 5 ∨ n = 6 ∨ n = 7 := by omega
    rcases hc with rfl | rfl | rfl | rfl | rfl | rfl | rfl | rfl
    · show (_ : List Value)[i * 8]? = _
      rw [List.getElem?_set_ne (by omega), List.getElem?_set_ne (by omega), List.getElem?_set_ne (by omega), List.getElem?_set_ne (by omega), List.getElem?_set_ne (by omega), List.getElem?_set_ne (by omega), List.getElem?_set_ne (by omega), List.getElem?_set_self (by omega)]; rfl
    · rw [List.getElem?_set_ne (by omega), List.getElem?_set_ne (by omega), List.getElem?_set_ne (by omega), List.getElem?_set_ne (by omega), List.getElem?_set_ne (by omega), List.getElem?_set_ne (by omega), List.getElem?_set_self (by simp; omega)]; rfl
    · rw [List.getElem?_set_ne (by omega), List.getElem?_set_ne (by omega), List.getElem?_set_ne (by omega), List.getElem?_set_ne (by omega), List.getElem?_set_ne (by omega), List.getElem?_set_self (by simp; omega)]; rfl
    · rw [List.getElem?_set_ne (by omega), List.getElem?_set_ne (by omega), List.getElem?_set_ne (by omega), List.getElem?_set_ne (by omega), List.getElem?_set_self (by simp; omega)]; rfl
    · rw [List.getElem?_set_ne (by omega), List.getElem?_set_ne (by omega), List.getElem?_set_ne (by omega), List.getElem?_set_self (by simp; omega)]; rfl
    · rw [List.getElem?_set_ne (by omega), List.getElem?_set_ne (by omega), List.getElem?_set_self (by simp; omega)]; rfl
    · rw [List.getElem?_set_ne (by omega), List.getElem?_set_self (by simp; omega)]; rfl
    · rw [List.getElem?_set_self (by simp; omega)]; rfl
  · rw [List.getElem?_eq_none (by simp; omega), List.getElem?_eq_none (by simp; omega)]
theorem set8_other (xs : List Value) (i j : Nat) (hij : j ≠ i) (a0 a1 a2 a3 a4 a5 a6 a7 : Value) : (((((((((xs.set (i * 8) a0).set (i * 8 + 1) a1).set (i * 8 + 2) a2).set (i * 8 + 3) a3).set (i * 8 + 4) a4).set (i * 8 + 5) a5).set (i * 8 + 6) a6).set (i * 8 + 7) a7).drop (j * 8)).take 8 = (xs.drop (j * 8)).take 8 := by
  apply List.ext_getElem?
  intro n
  by_cases hn : n < 8
  · rw [List.getElem?_take_of_lt hn, List.getElem?_drop, List.getElem?_take_of_lt hn, List.getElem?_drop, List.getElem?_set_ne (by omega), List.getElem?_set_ne (by omega), List.getElem?_set_ne (by omega), List.getElem?_set_ne (by omega), List.getElem?_set_ne (by omega), List.getElem?_set_ne (by omega), List.getElem?_set_ne (by omega), List.getElem?_set_ne (by omega)]
  · rw [List.getElem?_eq_none (by simp; omega), List.getElem?_eq_none (by simp; omega)]
theorem put8 {P : World → Prop} {g : Nat} (h : ∀ W j u, P W → P (W.setCell ⟨g, j, none⟩ u)) {W : World} (h0 : P W) (j0 j1 j2 j3 j4 j5 j6 j7 : Nat) (u0 u1 u2 u3 u4 u5 u6 u7 : Value) : P ((((((((W.setCell ⟨g, j0, none⟩ u0).setCell ⟨g, j1, none⟩ u1).setCell ⟨g, j2, none⟩ u2).setCell ⟨g, j3, none⟩ u3).setCell ⟨g, j4, none⟩ u4).setCell ⟨g, j5, none⟩ u5).setCell ⟨g, j6, none⟩ u6).setCell ⟨g, j7, none⟩ u7) := (h _ _ _ (h _ _ _ (h _ _ _ (h _ _ _ (h _ _ _ (h _ _ _ (h _ _ _ (h _ _ _ h0))))))))
set_option maxRecDepth 100000 in
set_option maxHeartbeats 20000000 in
theorem l12Read_any (v : Value) (F : List Lr) (w : World) (h : RowsAt w v F) (hs : F.length ≤ 1048576 ∧ ∀ f ∈ F, SmallR f) (hok : ∀ f ∈ F, textOk f.bd = true ∧ f.cs.all textOk = true ∧ f.cs.length ≤ 20) :
    Calls Tryz.prog 24 #[v] w fun e w' => ∃ v', e = .returned v' ∧ (∃ p c, v' = .slice p F.length c) ∧ RRow w.heap.size (w.heap.size + 1) w' v' (F.map nrOf) ∧ Below w.heap.size w w' := by
  obtain ⟨p, c, rfl, l1, m1, r1⟩ := h
  unfold maxLen at m1
  have H1 := hidG r1
  have HSM := hidG hs.2
  have hl := hs.1
  have HOK := hidG hok
  obtain ⟨i0, hinf, hz0, hz1, hz2⟩ := info_lr
  clear r1 hs hok
  go_enter Tryz.func24, Tryz.ntmps24
  go_wp2_with (at_make; refine wpList_make_full _ rfl _ _ 47 rfl w.heap.size 76 i0 _ 8 Tryz.underlying47 hinf hz0 hz1 .i64 .i64 _ _ F.length rfl rfl (by simp) (by simp) (by rw [hz2]; omega) (by unfold maxLen; omega) (Nat.le_refl _) ?_)
  intro w1 hown1 hgr
  have HB1 : Hid (Below w.heap.size w w1) := (Below.refl _ _).grown hgr (Nat.le_refl _) (fun k e => by cases e)
  have HO1 := hidG hown1
  clear hown1 hgr
  go_wp2_with fail
  go_loopw [14] (fun iv wr => ∃ (i : Nat) (ys : List Value), i ≤ F.length ∧ iv = .int .i64 (i : Nat) ∧ wr.ownsRow w.heap.size 76 8 (.slice (some ⟨w.heap.size, 0, none⟩) F.length F.length) F.length ys ∧ (∀ j (_ : j < F.length), j < i → Rz (w.heap.size + 1) wr ((ys.drop (j * 8)).take 8) (nrOf F[j])) ∧ Below w.heap.size w wr) (fun iv _ => F.length - (intOf iv).toNat)
  case atStart => exact ⟨0, _, Nat.zero_le _, rfl, HO1.out, fun j _ h => absurd h (Nat.not_lt_zero _), HB1.out⟩
  case round =>
    rename World => wo
    obtain ⟨i, ys, hi, rfl, hown, hall, hB⟩ := hrel
    have HOWN := hidG hown
    have HALL := hidG hall
    have HB := hidG hB
    have hwo : w.heap.size + 1 ≤ wo.heap.size := (hown.lt _ rfl).2
    clear hown hall HO1
    by_cases hlt : i < F.length
    · obtain ⟨b, rfl, hb, hA⟩ : ∃ b, p = some ⟨b, 0, none⟩ ∧ b < w.heap.size ∧ ∀ i (h : i < F.length), (∃ va, w.cell? ⟨b, i * 3, none⟩ = some va ∧ StrsAt w va F[i].cs) ∧ w.cell? ⟨b, i * 3 + 1, none⟩ = some (.bool F[i].st) ∧ w.cell? ⟨b, i * 3 + 2, none⟩ = some (.string (strOf F[i].bd)) := by
        rcases H1.out with h | h
        · rw [h] at hlt; exact absurd hlt (Nat.not_lt_zero _)
        · exact h
      obtain ⟨⟨va, k0, hva⟩, k1, k2⟩ := hA i hlt
      rw [← hB.cell (p := ⟨b, i * 3, none⟩) hb] at k0
      rw [← hB.cell (p := ⟨b, i * 3 + 1, none⟩) hb] at k1
      rw [← hB.cell (p := ⟨b, i * 3 + 2, none⟩) hb] at k2
      have HSF := hidG (HSM.out _ (List.getElem_mem hlt))
      have HOF := hidG (HOK.out _ (List.getElem_mem hlt))
      obtain ⟨f, hf⟩ : ∃ f, F[i] = f := ⟨_, rfl⟩
      have HF := hidG hf
      rw [hf] at k1 k2 hva HSF HOF
      have HVA := hidG (hva.below hB)
      obtain ⟨pa, ca, rfl, va1, va2, va3⟩ := hva
      unfold maxLen at va2
      obtain ⟨W1, hW1⟩ : ∃ W1, wo.alloc (.cells #[.slice pa f.cs.length ca, .bool f.st, .string (strOf f.bd)] 50) = W1 := ⟨_, rfl⟩
      have hB1 : Below wo.heap.size wo W1 := by rw [← hW1]; exact below_alloc _ _
      have hX1 : Bx W1 wo.heap.size [.slice pa f.cs.length ca, .bool f.st, .string (strOf f.bd)] := by rw [← hW1]; exact bx_new wo _ _
      have HW1 := hidG hW1
      have HX1 := hidG hX1
      have HBW1 := hidG hB1
      have hs1 : W1.heap.size = wo.heap.size + 1 := by rw [← hW1]; simp
      have HS1 := hidG hs1
      have HRB : Hid (∀ W, Calls Tryz.prog 42 #[.string (strOf f.bd)] W fun e w' => ∃ z, e = .returned z ∧ IsQN W.heap.size w' z (numT (strOf f.bd)) 1 ∧ Below W.heap.size W w') := fun W => l2ReadI_any _ W HSF.out.2 HOF.out.1
      clear hf hA va3 hW1 hB1 hX1 hB hs1
      go_upto_region 1 with (rw [HW1.out])
      go_cut [6] (fun s6 wx => ∃ (bx : Nat) (c0 c1 c2 c3 c4 c5 : Value), s6 = .pointer (some ⟨bx, 0, none⟩) ∧ wo.heap.size + 1 ≤ bx ∧ Bx wx bx [.slice none 0 0, .bool f.st, c0, c1, c2, c3, c4, c5] ∧ Qz (wo.heap.size + 1) wx [c0, c1, c2, c3, c4, c5] (numT (strOf f.bd)) 1 (some bx) ∧ Below W1.heap.size W1 wx)
      case first =>
        have HCC : Hid (∀ W, Below W1.heap.size W1 W → W.cell? ⟨wo.heap.size, 1, none⟩ = some (.bool f.st) ∧ W.cell? ⟨wo.heap.size, 2, none⟩ = some (.string (strOf f.bd))) := fun W hW => (HX1.out.below HX1.out.lt hW).c3.2
        obtain ⟨m1, m2⟩ := HCC.out W1 (Below.refl _ _)
        have q1 : wo.heap.size < W1.heap.size := HX1.out.lt
        go_region_law
          ((go_simp; refine (HRB.out _).mono ?_; rintro e w2 ⟨z, rfl, hz, hb2⟩; have HB2 : Hid (Below W1.heap.size W1 w2) := (by first | (exact ⟨hb2.os, hb2.tape, hb2.output, hb2.size, hb2.block⟩) | (exact (up_alloc (Below.refl _ _).drew _).trans (hb2.mono (by simp)))); obtain ⟨zp0, zpn, zpa, zpl, zpc, zq0, zqn, zqa, zql, zqc, rfl, -, -⟩ := id hz; have HZ2 := hidG hz; obtain ⟨m3, m4⟩ := HCC.out w2 HB2.out; have q2 : wo.heap.size < w2.heap.size := Nat.lt_of_lt_of_le q1 HB2.out.size; try (have hnb : Bx w2 W1.heap.size [.slice none 0 0, .bool false, .int .i64 0, .bool false, .slice none 0 0, .int .i64 0, .bool false, .slice none 0 0] := (bx_new W1.drew [.slice none 0 0, .bool false, .int .i64 0, .bool false, .slice none 0 0, .int .i64 0, .bool false, .slice none 0 0] 76).below (bx_new W1.drew [.slice none 0 0, .bool false, .int .i64 0, .bool false, .slice none 0 0, .int .i64 0, .bool false, .slice none 0 0] 76).lt hb2; obtain ⟨n0, n1, n2, n3, n4, n5, n6, n7⟩ := hnb.c8; have g0 := hnb.frozen 0; have g1 := hnb.frozen 1; have g2 := hnb.frozen 2; have g3 := hnb.frozen 3; have g4 := hnb.frozen 4; have g5 := hnb.frozen 5; have g6 := hnb.frozen 6; have g7 := hnb.frozen 7; have HNB := hidG hnb; clear hnb); clear hz hb2; go_wp2_with fail))
        all_goals
          go_wp2_with fail
          go_meet
          have hs1 := HS1.out
          have hs2 := HB2.out.size
          first
            | (have hnb := HNB.out
               refine ⟨W1.heap.size, _, _, _, _, _, _, rfl, by omega, (((((((hnb.set 0 _).set 1 _).set 2 _).set 3 _).set 4 _).set 5 _).set 6 _).set 7 _, ?_, ?_⟩
               · refine Qz.mono (B := W1.heap.size + 1) ?_ (by omega)
                 exact put8 (P := fun W => Qz (W1.heap.size + 1) W [.int .i64 zp0, .bool zpn, .slice zpa zpl zpc, .int .i64 zq0, .bool zqn, .slice zqa zql zqc] (numT (strOf f.bd)) 1 (some W1.heap.size)) (fun W j u h => h.low ⟨W1.heap.size, j, none⟩ u (Nat.lt_succ_self _)) ((qz_mk HZ2.out (some W1.heap.size) (fun b h1 _ h => by injection h with h; simp at h1; omega)).mono (B' := W1.heap.size + 1) (by simp)) _ _ _ _ _ _ _ _ _ _ _ _ _ _ _ _
               · exact put8 (P := fun W => Below W1.heap.size W1 W) (fun W j u h => h.setCell (p := ⟨W1.heap.size, j, none⟩) (Nat.le_refl _) u) HB2.out _ _ _ _ _ _ _ _ _ _ _ _ _ _ _ _)
            | (refine ⟨w2.heap.size, _, _, _, _, _, _, rfl, by omega, bx_new w2 _ _, ?_, HB2.out.alloc hs2 _⟩
               exact ((qz_mk HZ2.out (some w2.heap.size) (fun b _ hlt h => by injection h with h; omega)).mono (B' := wo.heap.size + 1) (by show wo.heap.size + 1 ≤ W1.heap.size; omega)).below (below_alloc _ _))
      case rest =>
        obtain ⟨bx, c0, c1, c2, c3, c4, c5, rfl, hbx, hX, hQ, hBc⟩ := hcut
        have HQ := hidG hQ
        obtain ⟨zp0, zpn, zpa, zpl, zpc, zq0, zqn, zqa, zql, zqc, e6⟩ := hQ.shape
        simp only [List.cons.injEq, and_true] at e6
        obtain ⟨rfl, rfl, rfl, rfl, rfl, rfl⟩ := e6
        have HBX := hidG hbx
        have HRS0 : Hid (RS W1 wc bx (.slice none 0 0) [.bool f.st, .int .i64 zp0, .bool zpn, .slice zpa zpl zpc, .int .i64 zq0, .bool zqn, .slice zqa zql zqc] [] wc) := ⟨hX, QRow.nil _ _, fun _ _ _ => rfl, Nat.le_refl _, hBc⟩
        obtain ⟨r0, r1, r2⟩ := (HX1.out.below HX1.out.lt hBc).c3
        have hbxw : bx < wc.heap.size := hX.lt
        clear hX hQ hBc hbx
        go_wp2_with fail
        go_loopw [28] (fun jv wr => ∃ (k : Nat) (vq : Value), k ≤ f.cs.length ∧ jv = .int .i64 (k : Nat) ∧ RS W1 wc bx vq [.bool f.st, .int .i64 zp0, .bool zpn, .slice zpa zpl zpc, .int .i64 zq0, .bool zqn, .slice zqa zql zqc] ((f.cs.take k).map (fun s => (numT (strOf s), 1))) wr) (fun jv _ => f.cs.length - (intOf jv).toNat)
        case atStart => exact ⟨0, _, Nat.zero_le _, rfl, HRS0.out⟩
        case round =>
          rename World => wi
          obtain ⟨k, vq, hk, rfl, hR⟩ := hrel
          have HR := hidG hR
          by_cases hkl : k < f.cs.length
          · obtain ⟨pq, cq, rfl⟩ := hR.row.form
            have hlenk : ((f.cs.take k).map (fun s => (numT (strOf s), (1 : Int)))).length = k := by simp; omega
            rw [hlenk] at HR hR
            obtain ⟨pa', ca', e', -, -, hcell⟩ := HVA.out
            simp only [Value.slice.injEq] at e'
            obtain ⟨rfl, -, rfl⟩ := e'
            obtain ⟨b3, rfl, hb3, hc3⟩ : ∃ b3, pa = some ⟨b3, 0, none⟩ ∧ b3 < wo.heap.size ∧ ∀ i (h : i < f.cs.length), wo.cell? ⟨b3, i, none⟩ = some (.string (strOf f.cs[i])) := by
              rcases hcell with h | h
              · rw [h] at hkl; exact absurd hkl (Nat.not_lt_zero _)
              · exact h
            have k3 := hc3 k hkl
            rw [← (HBW1.out.trans (hR.bel.mono HBW1.out.size)).cell (p := ⟨b3, k, none⟩) hb3] at k3
            have HRC : Hid (∀ W, Calls Tryz.prog 42 #[.string (strOf f.cs[k])] W fun e w' => ∃ z, e = .returned z ∧ IsQN W.heap.size w' z (numT (strOf f.cs[k])) 1 ∧ Below W.heap.size W w') := fun W => l2ReadI_any _ W (HSF.out.1.2 _ (List.getElem_mem hkl)) (List.all_eq_true.1 HOF.out.2.1 _ (List.getElem_mem hkl))
            have HTK : Hid ((f.cs.take (k + 1)).map (fun s => (numT (strOf s), (1 : Int))) = (f.cs.take k).map (fun s => (numT (strOf s), (1 : Int))) ++ [(numT (strOf f.cs[k]), 1)]) := by
              unfold Hid
              rw [List.take_succ_eq_append_getElem hkl, List.map_append]; rfl
            obtain ⟨S, hS⟩ : ∃ S, strOf f.cs[k] = S := ⟨_, rfl⟩
            rw [hS] at k3 HRC HTK
            have q0 := hR.box.cell 0
            simp only [List.getElem?_cons_zero] at q0
            have hk20 : k ≤ 20 := by have := HOF.out.2.2; omega
            have HLK := hidG hlenk
            have HOB : Hid (∀ b, (Value.slice pq k cq).ownBlock = some b → wc.heap.size ≤ b ∧ b < wi.heap.size) := fun b e => by
              obtain ⟨xs, hr, _⟩ := hR.row
              exact hr.lt b e
            clear hS hc3 hcell hR hlenk
            go_wp2_with fail
            go_region_law
              (first
                | (refine step_appQ (W := w3) (base := wc.heap.size) (v := .slice pq k cq) (N := (f.cs.take k).map (fun s => (numT (strOf s), (1 : Int)))) (by rfl) _ _ (by rfl) (by rfl) HROW3.out HQ3.out _ (by rfl) (by rfl) k HLK.out (by omega) HS3.out ?_; intro g5 c5 w5 hrow5 hsz5 hgr5; have HR5 := hidG hrow5; have HG5 := hidG hgr5; have hx5 := bx_grown HX3.out hgr5 HNE.out; have d1 := hx5.cell 0; have e1 := hx5.frozen 0; simp only [List.getElem?_cons_zero] at d1; have HX5 := hidG hx5; clear hrow5 hgr5 hx5)
                | (go_simp; refine (HRC.out _).mono ?_; rintro e w3 ⟨z, rfl, hz, hb3x⟩; have HB3 : Hid (Below wi.heap.size wi w3) := ⟨hb3x.os, hb3x.tape, hb3x.output, hb3x.size, hb3x.block⟩; obtain ⟨yp0, ypn, ypa, ypl, ypc, yq0, yqn, yqa, yql, yqc, rfl, -, -⟩ := id hz; have HQ3 : Hid (Qz wc.heap.size w3 [.int .i64 yp0, .bool ypn, .slice ypa ypl ypc, .int .i64 yq0, .bool yqn, .slice yqa yql yqc] (numT S) 1 (Value.slice pq k cq).ownBlock) := (qz_mk hz _ (fun b h1 _ h3 => Nat.lt_irrefl _ (Nat.lt_of_lt_of_le (HOB.out b h3).2 h1))).mono HR.out.size; have HROW3 : Hid (QRow wc.heap.size w3 (.slice pq k cq) ((f.cs.take k).map (fun s => (numT (strOf s), (1 : Int))))) := HR.out.row.below HB3.out; have HS3 : Hid (wc.heap.size ≤ w3.heap.size) := Nat.le_trans HR.out.size HB3.out.size; have HX3 := hidG (HR.out.box.below HR.out.box.lt HB3.out); have HNE : Hid ((Value.slice pq k cq).ownBlock ≠ some bx) := fun e => Nat.lt_irrefl _ (Nat.lt_of_lt_of_le hbxw (HOB.out bx e).1); have d0 : w3.cell? ⟨bx, 0, none⟩ = some (.slice pq k cq) := HX3.out.cell 0; have q3 : bx < w3.heap.size := HX3.out.lt; clear hz hb3x; go_wp2_with fail))
            all_goals
              go_wp2_with fail
              refine ⟨⟨k + 1, .slice (some ⟨g5, 0, none⟩) (k + 1) c5, by omega, by go_num, ?_⟩, by simp [intOf]; omega⟩
              rw [HTK.out]
              have hw1c : W1.heap.size ≤ bx := by have := HS1.out; have := HBX.out; omega
              have hb3 := HR.out.bel.trans (HB3.out.mono HR.out.bel.size)
              refine ⟨HX5.out.set 0 _, HR5.out.low ⟨bx, 0, none⟩ _ hbxw, fun b h1 h2 => ?_, ?_, ?_⟩
              · have h4 := HR.out.size
                have h5 := HB3.out.size
                rw [Below.heap_setCell _ ⟨bx, 0, none⟩ _ _ h2, HG5.out.block b (by omega) (fun e => by have := (HOB.out b e.symm).1; omega), HB3.out.block b (by omega)]
                exact HR.out.same b h1 h2
              · have h4 := HR.out.size
                have h5 := HB3.out.size
                have h6 := HG5.out.size
                simp; omega
              · exact (hb3.grown HG5.out hb3.size (fun k e => by have := (HOB.out k e).1; omega)).setCell (p := ⟨bx, 0, none⟩) hw1c _
          · have hke : k = f.cs.length := by omega
            rw [hke, List.take_length] at HR
            obtain ⟨n0, n1, n2, n3, n4, n5, n6, n7⟩ := hR.box.c8
            clear hR hke
            have HO2 : Hid (wi.ownsRow w.heap.size 76 8 (.slice (some ⟨w.heap.size, 0, none⟩) F.length F.length) F.length ys) := by
              have hb := HBW1.out.trans (HR.out.bel.mono HBW1.out.size)
              exact row_below HOWN.out hb
            obtain ⟨o0, t0⟩ := row_at HO2.out (i * 8) (by omega)
            obtain ⟨o1, t1⟩ := row_at HO2.out (i * 8 + 1) (by omega)
            obtain ⟨o2, t2⟩ := row_at HO2.out (i * 8 + 2) (by omega)
            obtain ⟨o3, t3⟩ := row_at HO2.out (i * 8 + 3) (by omega)
            obtain ⟨o4, t4⟩ := row_at HO2.out (i * 8 + 4) (by omega)
            obtain ⟨o5, t5⟩ := row_at HO2.out (i * 8 + 5) (by omega)
            obtain ⟨o6, t6⟩ := row_at HO2.out (i * 8 + 6) (by omega)
            obtain ⟨o7, t7⟩ := row_at HO2.out (i * 8 + 7) (by omega)
            have g0 := HO2.out.frozenAt (i * 8)
            have g1 := HO2.out.frozenAt (i * 8 + 1)
            have g2 := HO2.out.frozenAt (i * 8 + 2)
            have g3 := HO2.out.frozenAt (i * 8 + 3)
            have g4 := HO2.out.frozenAt (i * 8 + 4)
            have g5 := HO2.out.frozenAt (i * 8 + 5)
            have g6 := HO2.out.frozenAt (i * 8 + 6)
            have g7 := HO2.out.frozenAt (i * 8 + 7)
            obtain ⟨pq, cq, rfl⟩ := HR.out.row.form
            rw [List.length_map] at HR n0
            have HOW := hidG (((((((((HO2.out.stored (i * 8) (.slice pq f.cs.length cq)).1.stored (i * 8 + 1) (.bool f.st)).1.stored (i * 8 + 2) (.int .i64 zp0)).1.stored (i * 8 + 3) (.bool zpn)).1.stored (i * 8 + 4) (.slice zpa zpl zpc)).1.stored (i * 8 + 5) (.int .i64 zq0)).1.stored (i * 8 + 6) (.bool zqn)).1.stored (i * 8 + 7) (.slice zqa zql zqc)).1)
            clear t0 t1 t2 t3 t4 t5 t6 t7 g0 g1 g2 g3 g4 g5 g6 g7
            obtain ⟨o0, t0⟩ := row_at HO2.out (i * 8) (by omega)
            obtain ⟨o1, t1⟩ := row_at HO2.out (i * 8 + 1) (by omega)
            obtain ⟨o2, t2⟩ := row_at HO2.out (i * 8 + 2) (by omega)
            obtain ⟨o3, t3⟩ := row_at HO2.out (i * 8 + 3) (by omega)
            obtain ⟨o4, t4⟩ := row_at HO2.out (i * 8 + 4) (by omega)
            obtain ⟨o5, t5⟩ := row_at HO2.out (i * 8 + 5) (by omega)
            obtain ⟨o6, t6⟩ := row_at HO2.out (i * 8 + 6) (by omega)
            obtain ⟨o7, t7⟩ := row_at HO2.out (i * 8 + 7) (by omega)
            have g0 := HO2.out.frozenAt (i * 8)
            have g1 := HO2.out.frozenAt (i * 8 + 1)
            have g2 := HO2.out.frozenAt (i * 8 + 2)
            have g3 := HO2.out.frozenAt (i * 8 + 3)
            have g4 := HO2.out.frozenAt (i * 8 + 4)
            have g5 := HO2.out.frozenAt (i * 8 + 5)
            have g6 := HO2.out.frozenAt (i * 8 + 6)
            have g7 := HO2.out.frozenAt (i * 8 + 7)
            go_wp2_with fail
            have hbi := HBW1.out.trans (HR.out.bel.mono HBW1.out.size)
            have hys : ys.length = F.length * 8 := HOWN.out.1
            refine ⟨⟨i + 1, _, by omega, by go_num, HOW.out, fun j hj hji => ?_, ?_⟩, by simp [intOf]; omega⟩
            · by_cases e : j = i
              · subst e
                rw [set8_same _ _ (by omega), HF.out]
                refine ⟨_, _, _, _, _, _, _, rfl, ?_, ?_⟩
                · rw [show (nrOf f).cs.map (fun x => (x, (1 : Int))) = f.cs.map (fun s => (numT (strOf s), 1)) by unfold nrOf; rw [List.map_map]; rfl]
                  exact put8 (P := fun W => QRow (w.heap.size + 1) W (.slice pq f.cs.length cq) (f.cs.map (fun s => (numT (strOf s), 1)))) (fun W j u h => h.low ⟨w.heap.size, j, none⟩ u (Nat.lt_succ_self _)) (HR.out.row.mono (by have := HS1.out; have := HBX.out; omega)) _ _ _ _ _ _ _ _ _ _ _ _ _ _ _ _
                · have hq : Qz (w.heap.size + 1) wi [.int .i64 zp0, .bool zpn, .slice zpa zpl zpc, .int .i64 zq0, .bool zqn, .slice zqa zql zqc] (numT (strOf f.bd)) 1 none := (HQ.out.kept HR.out.size (fun b _ h2 h3 => HR.out.same b h2 (fun e => h3 (by rw [e]))) (fun _ _ _ _ h => by cases h)).mono (by omega)
                  exact put8 (P := fun W => Qz (w.heap.size + 1) W [.int .i64 zp0, .bool zpn, .slice zpa zpl zpc, .int .i64 zq0, .bool zqn, .slice zqa zql zqc] (numT (strOf f.bd)) 1 none) (fun W j u h => h.low ⟨w.heap.size, j, none⟩ u (Nat.lt_succ_self _)) hq _ _ _ _ _ _ _ _ _ _ _ _ _ _ _ _
              · rw [set8_other _ _ _ e]
                exact put8 (P := fun W => Rz (w.heap.size + 1) W ((ys.drop (j * 8)).take 8) (nrOf F[j])) (fun W j u h => h.low ⟨w.heap.size, j, none⟩ u (Nat.lt_succ_self _)) ((HALL.out j hj (by omega)).below hbi) _ _ _ _ _ _ _ _ _ _ _ _ _ _ _ _
            · exact put8 (P := fun W => Below w.heap.size w W) (fun W j u h => h.setCell (p := ⟨w.heap.size, j, none⟩) (Nat.le_refl _) u) (HB.out.trans (hbi.mono HB.out.size)) _ _ _ _ _ _ _ _ _ _ _ _ _ _ _ _
    · have hie : i = F.length := by omega
      subst hie
      clear hB
      go_wp2_with fail
      go_ret
      refine ⟨_, rfl, ⟨_, _, rfl⟩, ⟨ys, by rw [List.length_map]; exact HOWN.out, fun j hj => ?_⟩, HB.out⟩
      rw [List.length_map] at hj
      rw [List.getElem_map]
      exact HALL.out j hj hj
def gcdK (C : List Int) : Nat → Int
  | 0 => 0
  | k + 1 => gcdI (gcdK C k) (C.getD k 0)
def IsWD (Wh : List Bool) (C : List Int) (g : Int) : Prop :=
  ((∃ i, i < C.length ∧ Wh.getD i true = false ∧ C.getD i 0 ≠ 0) ∧ g = 0) ∨ ((∀ i, i < C.length → Wh.getD i true = false → C.getD i 0 = 0) ∧ g = gcdK C C.length)
theorem IsWD.eq {Wh : List Bool} {C : List Int} {g g' : Int} (h : IsWD Wh C g) (h' : IsWD Wh C g') : g = g' := by
  rcases h with ⟨⟨i, h1, h2, h3⟩, rfl⟩ | ⟨h1, rfl⟩ <;> rcases h' with ⟨⟨j, k1, k2, k3⟩, rfl⟩ | ⟨k1, rfl⟩
  · rfl
  · exact absurd (k1 i h1 h2) h3
  · exact absurd (h1 j k1 k2) k3
  · rfl
theorem gcdK_pos (C : List Int) : ∀ k, 0 ≤ gcdK C k
  | 0 => Int.le_refl _
  | k + 1 => by unfold gcdK gcdI; exact Int.natCast_nonneg _
def Tight (Wh : List Bool) (f n : Nr) : Prop :=
  ∃ g, IsWD Wh f.cs g ∧ ((g = 0 ∧ n = f) ∨ (g ≠ 0 ∧ n.st = false ∧ n.cs.length = f.cs.length ∧ (∀ i, i < f.cs.length → ∃ r, IsDiv (f.cs.getD i 0) g (n.cs.getD i 0) r) ∧ ∃ r, IsDiv (f.bd - if f.st then 1 else 0) g n.bd r))
theorem getD_ext {α : Type} {a b : List α} (d : α) (hl : a.length = b.length) (h : ∀ i, i < a.length → a.getD i d = b.getD i d) : a = b := by
  refine List.ext_getElem hl fun i h1 h2 => ?_
  have := h i h1
  rw [List.getD_eq_getElem?_getD, List.getD_eq_getElem?_getD, List.getElem?_eq_getElem h1, List.getElem?_eq_getElem h2] at this
  exact this
theorem Tight.eq {Wh : List Bool} {f n n' : Nr} (h : Tight Wh f n) (h' : Tight Wh f n') : n = n' := by
  obtain ⟨g, hg, h⟩ := h
  obtain ⟨g', hg', h'⟩ := h'
  obtain rfl := hg.eq hg'
  rcases h with ⟨h0, rfl⟩ | ⟨h0, h1, h2, h3, r, h4⟩ <;> rcases h' with ⟨k0, rfl⟩ | ⟨k0, k1, k2, k3, r', k4⟩
  · rfl
  · exact absurd h0 k0
  · exact absurd k0 h0
  · obtain ⟨c, s, b⟩ := n
    obtain ⟨c', s', b'⟩ := n'
    have e1 : c = c' := getD_ext 0 (h2.trans k2.symm) fun i hi => by
      obtain ⟨x, hx⟩ := h3 i (by rw [← h2]; exact hi)
      obtain ⟨y, hy⟩ := k3 i (by rw [← h2]; exact hi)
      exact (isDiv_unique hx hy).1
    have e2 : b = b' := (isDiv_unique h4 k4).1
    have h1 : s = false := h1
    have k1 : s' = false := k1
    rw [e1, e2, h1, k1]
def SaidN (n : Nr) (f : Lr) : Prop := f.st = n.st ∧ f.cs.length = n.cs.length ∧ (∀ i, i < n.cs.length → IsText (n.cs.getD i 0) (strOf (f.cs.getD i []))) ∧ IsText n.bd (strOf f.bd)
theorem strOf_inj {a b : List UInt8} (h : strOf a = strOf b) : a = b := by rw [← strOf_toList a, h, strOf_toList]
theorem SaidN.eq {n : Nr} {f f' : Lr} (h : SaidN n f) (h' : SaidN n f') : f = f' := by
  obtain ⟨a1, a2, a3, a4⟩ := h
  obtain ⟨b1, b2, b3, b4⟩ := h'
  obtain ⟨c, s, b⟩ := f
  obtain ⟨c', s', b'⟩ := f'
  have e1 : c = c' := getD_ext [] (a2.trans b2.symm) fun i hi => strOf_inj ((a3 i (by rw [← a2]; exact hi)).eq (b3 i (by rw [← a2]; exact hi)))
  have e2 : b = b' := strOf_inj (a4.eq b4)
  have e3 : s = s' := a1.trans b1.symm
  rw [e1, e2, e3]
theorem textOk_int {s : List UInt8} (h : textOk s = true) : isIntB (strOf s) = true := by
  unfold textOk at h
  exact (Bool.and_eq_true_iff.1 h).1
theorem nr_at (f : Lr) {i : Nat} (h : i < f.cs.length) : (nrOf f).cs.getD i 0 = numT (strOf (f.cs.getD i [])) := by
  unfold nrOf
  rw [List.getD_eq_getElem?_getD, List.getD_eq_getElem?_getD, List.getElem?_map, List.getElem?_eq_getElem h]
  rfl
theorem nr_len (f : Lr) : (nrOf f).cs.length = f.cs.length := by unfold nrOf; rw [List.length_map]
theorem at_mem {α : Type} (l : List α) (d : α) {i : Nat} (h : i < l.length) : l.getD i d ∈ l := by
  rw [List.getD_eq_getElem?_getD, List.getElem?_eq_getElem h]
  exact List.getElem_mem h
theorem said_self {f : Lr} (h1 : textOk f.bd = true) (h2 : f.cs.all textOk = true) : SaidN (nrOf f) f := by
  refine ⟨rfl, (nr_len f).symm, fun i hi => ?_, text_back _ (textOk_int h1)⟩
  rw [nr_len] at hi
  rw [nr_at f hi]
  exact text_back _ (textOk_int (List.all_eq_true.1 h2 _ (at_mem _ _ hi)))
def TightT (Wh : List Bool) (f f' : Lr) : Prop := ∃ n, Tight Wh (nrOf f) n ∧ SaidN n f'
theorem TightT.eq {Wh : List Bool} {f a b : Lr} (h : TightT Wh f a) (h' : TightT Wh f b) : a = b := by
  obtain ⟨n, h1, h2⟩ := h
  obtain ⟨n', k1, k2⟩ := h'
  obtain rfl := h1.eq k1
  exact h2.eq k2
theorem TightT.len {Wh : List Bool} {f a : Lr} (h : TightT Wh f a) : a.cs.length = f.cs.length := by
  obtain ⟨n, ⟨g, _, h1⟩, _, h2, _⟩ := h
  rcases h1 with ⟨_, rfl⟩ | ⟨_, _, e, _⟩
  · exact h2.trans (nr_len f)
  · exact h2.trans (e.trans (nr_len f))
theorem low_one {p q c : Int} (hc : c ≠ 0) (h : c.natAbs = Int.gcd (p * c) (q * c)) : Int.gcd p q = 1 := by
  rw [Int.gcd_mul_right] at h
  have h1 : 0 < c.natAbs := by omega
  refine Nat.eq_of_mul_eq_mul_right h1 ?_
  rw [Nat.one_mul]
  exact h.symm
theorem floor_tight {b g p q fl r : Int} (st : Bool) (hg : 0 < g) (hl : IsLow b g p q) (hd : IsDiv p q fl r) : ∃ r', IsDiv (b - if st then 1 else 0) g (fl - if (st && decide (q = 1)) then 1 else 0) r' := by
  obtain ⟨c, hc, rfl, rfl, hq, hn⟩ := hl
  obtain ⟨rfl, h1, h2⟩ := hd
  have hc' : 0 < c := by
    rcases Int.lt_trichotomy c 0 with h | h | h
    · have := Int.mul_neg_of_pos_of_neg hq h
      omega
    · exact absurd h hc
    · exact h
  have hqa : ((q.natAbs : Nat) : Int) = q := by omega
  rw [hqa] at h2
  have hgn : (((q * c).natAbs : Nat) : Int) = q * c := by omega
  have hrc : 0 ≤ r * c := Int.mul_nonneg h1 (Int.le_of_lt hc')
  have hrl : r * c < q * c := Int.mul_lt_mul_of_pos_right h2 hc'
  have hex : (fl * q + r) * c = fl * (q * c) + r * c := by rw [Int.add_mul, Int.mul_assoc]
  cases st with
  | false =>
    refine ⟨r * c, ?_, hrc, by rw [hgn]; exact hrl⟩
    simp only [Bool.false_and, Bool.false_eq_true, if_false, Int.sub_zero]
    exact hex
  | true =>
    by_cases h : q = 1
    · subst h
      have hr : r = 0 := by omega
      subst hr
      refine ⟨1 * c - 1, ?_, by omega, by rw [hgn]; omega⟩
      simp only [Bool.true_and, decide_true, if_true]
      rw [hex, Int.sub_mul]
      omega
    · have hr : r ≠ 0 := by
        rintro rfl
        have h4 := low_one hc hn
        rw [Int.add_zero, Int.gcd_mul_left_left] at h4
        omega
      have h5 : c ≤ r * c := by
        have := Int.mul_le_mul_of_nonneg_right (show 1 ≤ r by omega) (Int.le_of_lt hc')
        omega
      refine ⟨r * c - 1, ?_, by omega, by rw [hgn]; omega⟩
      simp only [Bool.true_and, if_true, decide_eq_true_eq, if_neg h, Int.sub_zero]
      rw [hex]
      omega
theorem lim_okT (s : ByteArray) (h : isIntB s = true) : okL (lim s) := by
  unfold isIntB at h
  simp only [Bool.and_eq_true, Bool.or_eq_true, decide_eq_true_eq, Bool.not_eq_true', decide_eq_false_iff_not, List.all_eq_true] at h
  obtain ⟨⟨⟨h1, h2⟩, h3⟩, h4⟩ := h
  have hdig : ∀ c ∈ (dgs s).data.toList, dig c := fun c hc => by have := h3 c hc; unfold isDig at this; simpa [dig] using this
  exact trimL_ok _ (chunks_ok _ hdig)
theorem text_lt5 {s : List UInt8} (h : textOk s = true) : (numT (strOf s)).natAbs < 1000000000 ^ 5 := by
  unfold textOk at h
  obtain ⟨h1, h2⟩ := Bool.and_eq_true_iff.1 h
  have h2 := of_decide_eq_true h2
  unfold numT
  rw [sg_abs]
  refine val_lt_of _ (lim_okT _ h1) 5 ?_
  have h3 := trimL_len (chunks (dgs (strOf s)).data.toList)
  have h4 : (chunks (dgs (strOf s)).data.toList).length = cnt (dgs (strOf s)).size := by unfold chunks; simp
  unfold cnt at h4
  show (trimL (chunks (dgs (strOf s)).data.toList)).length ≤ 5
  omega
theorem div_abs {x y q r : Int} (h : IsDiv x y q r) : q.natAbs ≤ x.natAbs + 1 := by
  obtain ⟨rfl, h1, h2⟩ := h
  have hy : 1 ≤ y.natAbs := by omega
  have h3 : q.natAbs * y.natAbs = (q * y).natAbs := (Int.natAbs_mul q y).symm
  by_cases hq : q.natAbs ≤ 1
  · omega
  · have h4 : (q.natAbs - 1) * 1 ≤ (q.natAbs - 1) * y.natAbs := Nat.mul_le_mul_left _ hy
    have h5 : (q.natAbs - 1) * y.natAbs = q.natAbs * y.natAbs - 1 * y.natAbs := Nat.sub_mul _ _ _
    rw [h5, h3] at h4
    have h6 : 2 * y.natAbs ≤ (q * y).natAbs := by rw [← h3]; exact Nat.mul_le_mul_right _ (by omega)
    generalize q * y = Z at *
    omega
def SmN (n : Nr) : Prop := (∀ x ∈ n.cs, x.natAbs < 1000000000 ^ 6) ∧ n.bd.natAbs < 1000000000 ^ 6
def Sm5 (n : Nr) : Prop := (∀ x ∈ n.cs, x.natAbs < 1000000000 ^ 5) ∧ n.bd.natAbs < 1000000000 ^ 5
theorem sm_of {f : Lr} (h1 : textOk f.bd = true) (h2 : f.cs.all textOk = true) : Sm5 (nrOf f) := by
  refine ⟨fun x hx => ?_, text_lt5 h1⟩
  unfold nrOf at hx
  obtain ⟨s, hs, rfl⟩ := List.mem_map.1 hx
  exact text_lt5 (List.all_eq_true.1 h2 _ hs)
theorem lt56 {a : Nat} (h : a < 1000000000 ^ 5) : a + 2 < 1000000000 ^ 6 := by
  have h1 : (1000000000 : Nat) ^ 5 = 1000000000000000000000000000000000000000000000 := by decide
  have h2 : (1000000000 : Nat) ^ 6 = 1000000000000000000000000000000000000000000000000000000 := by decide
  omega
theorem Tight.small {Wh : List Bool} {f n : Nr} (h : Tight Wh f n) (hs : Sm5 f) : SmN n := by
  obtain ⟨g, hg, h⟩ := h
  rcases h with ⟨h0, rfl⟩ | ⟨h0, h1, h2, h3, r, h4⟩
  · exact ⟨fun x hx => by have := lt56 (hs.1 x hx); omega, by have := lt56 hs.2; omega⟩
  · refine ⟨fun x hx => ?_, ?_⟩
    · obtain ⟨i, hi, rfl⟩ := List.getElem_of_mem hx
      obtain ⟨y, hy⟩ := h3 i (by omega)
      have e : n.cs.getD i 0 = n.cs[i] := by rw [List.getD_eq_getElem?_getD, List.getElem?_eq_getElem hi]; rfl
      rw [e] at hy
      have := div_abs hy
      have := lt56 (hs.1 _ (at_mem f.cs 0 (show i < f.cs.length by omega)))
      omega
    · have := div_abs h4
      have := lt56 hs.2
      have : (f.bd - if f.st = true then 1 else 0).natAbs ≤ f.bd.natAbs + 1 := by split <;> omega
      omega
def BoolsAt (w : World) (v : Value) (L : List Bool) : Prop :=
  ∃ p c, v = .slice p L.length c ∧ L.length ≤ c ∧ c ≤ maxLen ∧ (L = [] ∨ ∃ b, p = some ⟨b, 0, none⟩ ∧ b < w.heap.size ∧ ∀ i (h : i < L.length), w.cell? ⟨b, i, none⟩ = some (.bool L[i]))
theorem BoolsAt.below {w w' : World} {v : Value} {L : List Bool} (h : BoolsAt w v L) (hb : Below w.heap.size w w') : BoolsAt w' v L := by
  obtain ⟨p, c, rfl, h1, h2, h3⟩ := h
  refine ⟨p, c, rfl, h1, h2, ?_⟩
  rcases h3 with h3 | ⟨b, e, hl, hc⟩
  · exact .inl h3
  · exact .inr ⟨b, e, Nat.lt_of_lt_of_le hl hb.size, fun i hi => (hb.cell (p := ⟨b, i, none⟩) hl).trans (hc i hi)⟩
def Tabs (w : World) : Prop := SP w ∧ NS w ∧ LT w
theorem Tabs.below {w w' : World} (h : Tabs w) (hb : Below w.heap.size w w') : Tabs w' := ⟨h.1.below hb, h.2.1.below hb, h.2.2.below hb⟩
theorem isI_zero (B : Nat) (W : World) (n : Nat) : IsI B W (.agg #[.bool false, .slice none 0 0]) 0 n :=
  ⟨false, _, [], rfl, ⟨none, 0, rfl, Nat.le_refl _, Nat.zero_le _, (fun _ h => by cases h), .inl rfl⟩, (fun h => absurd rfl h), rfl, Nat.zero_le _⟩
theorem cutI_any (s : List UInt8) (w : World) (hs : s.length ≤ 1048576) (ht : textOk s = true) :
    Calls Tryz.prog 49 #[.string (strOf s)] w fun e w' => ∃ s1 p l c, e = .returned (.agg #[.bool s1, .slice p l c]) ∧ IsI w.heap.size w' (.agg #[.bool s1, .slice p l c]) (numT (strOf s)) 280 ∧ Below w.heap.size w w' := by
  have hi := textOk_int ht
  refine (cutInteger_any (strOf s) w (by rw [strOf_size]; unfold maxLen; omega) hi).mono ?_
  rintro e w' ⟨v, rfl, hv, hb⟩
  have hv0 := hv
  obtain ⟨p, c, rfl, -⟩ := hv0
  exact ⟨_, p, _, c, rfl, ⟨isNeg (strOf s), _, lim (strOf s), rfl, hv, trimL_trim _, rfl, lim_len' _ hi⟩, hb⟩
theorem isI_isZero {B : Nat} {w : World} {s : Bool} {p : Option Addr} {l c : Nat} {x : Int} {n : Nat} (h : IsI B w (.agg #[.bool s, .slice p l c]) x n) : ((l : Int) == 0) = decide (x = 0) := by
  obtain ⟨neg, v, t, e, hv, ht, hx, _⟩ := h
  simp only [Value.agg.injEq, Array.mk.injEq, List.cons.injEq, Value.bool.injEq, and_true] at e
  obtain ⟨_, rfl⟩ := e
  obtain ⟨a, cap, e, _⟩ := hv
  simp only [Value.slice.injEq] at e
  obtain ⟨rfl, rfl, rfl⟩ := e
  have h1 := sg_zero_iff neg t ht
  rw [hx] at h1
  by_cases h0 : x = 0
  · rw [decide_eq_true h0, h1.1 h0]; rfl
  · rw [decide_eq_false h0]
    have : t ≠ [] := fun e => h0 (h1.2 e)
    have : t.length ≠ 0 := fun e => this (List.eq_nil_of_length_eq_zero e)
    simp; omega
set_option maxRecDepth 100000 in
set_option maxHeartbeats 1000000 in
theorem quotientText_any (B : Nat) (sa : Bool) (pa : Option Addr) (la ca : Nat) (sb : Bool) (pb : Option Addr) (lb cb : Nat) (x y : Int) (w : World) (hBw : B ≤ w.heap.size) (ha : IsI B w (.agg #[.bool sa, .slice pa la ca]) x 580) (hb : IsI B w (.agg #[.bool sb, .slice pb lb cb]) y 580) (hy : y ≠ 0) (hT : Tabs w) :
    Calls Tryz.prog 48 #[.agg #[.bool sa, .slice pa la ca], .agg #[.bool sb, .slice pb lb cb]] w fun e w' => ∃ u q r, e = .returned (.string u) ∧ IsDiv x y q r ∧ IsText q u ∧ Below w.heap.size w w' := by
  have HC : Hid (∀ W, Below w.heap.size w W → Calls Tryz.prog 75 #[.agg #[.bool sa, .slice pa la ca], .agg #[.bool sb, .slice pb lb cb]] W fun e w' => ∃ z1 z2 q r, e = .returned (.tuple #[z1, z2]) ∧ IsI B w' z1 q 582 ∧ IsI B w' z2 r 583 ∧ IsDiv x y q r ∧ Below w.heap.size w w') := fun W hW => by
    refine (dividedBy_any B _ _ x y 580 580 W (Nat.le_trans hBw hW.size) (ha.below hW) (hb.below hW) hy (by omega) (by omega) (hT.below hW).1).mono ?_
    rintro e w' ⟨z1, z2, q, r, rfl, h1, h2, h3, h4⟩
    exact ⟨z1, z2, q, r, rfl, h1, h2, h3, hW.trans (h4.mono hW.size)⟩
  have HX : Hid (∀ W W' z q, Below w.heap.size w W → IsI B W z q 582 → Below W.heap.size W W' → Calls Tryz.prog 76 #[z] W' fun e w' => ∃ u, e = .returned (.string u) ∧ IsText q u ∧ Below w.heap.size w w') := fun W W' z q hW hz hW' => by
    have h1 := hW.trans (hW'.mono hW.size)
    refine (textI_any B _ q 582 W' (hz.below hW') (by omega) (hT.below h1).2.2).mono ?_
    rintro e w' ⟨u, rfl, hu, hb⟩
    exact ⟨u, rfl, hu, h1.trans (hb.mono h1.size)⟩
  clear ha hb hT
  go_enter Tryz.func48, Tryz.ntmps48
  go_wp2_with (go_at_call 75; refine (HC.out _ (up_alloc (below_alloc _ _) _)).mono ?_; rintro e w1 ⟨z1, z2, q, r, rfl, h1, h2, hd, hb1⟩; obtain ⟨s1, p1, l1, c1, rfl⟩ := h1.shape; obtain ⟨s2, p2, l2, c2, rfl⟩ := h2.shape; have H1 := hidG h1; have HD := hidG hd; have HB1 := hidG hb1; clear h1 h2 hd hb1)
  refine (HX.out w1 _ _ q HB1.out H1.out (by first | exact Below.refl _ _ | exact below_alloc _ _ | exact up_alloc (below_alloc _ _) _)).mono ?_
  rintro e w2 ⟨u, rfl, hu, hb2⟩
  have HU := hidG hu
  have HB2 := hidG hb2
  clear hu hb2
  go_wp2_with fail
  go_ret
  exact ⟨u, q, r, rfl, HD.out, HU.out, HB2.out⟩
def numsT (C : List (List UInt8)) : List Int := C.map (fun s => numT (strOf s))
theorem numsT_at {C : List (List UInt8)} {i : Nat} (h : i < C.length) : (numsT C).getD i 0 = numT (strOf C[i]) := by
  unfold numsT
  rw [List.getD_eq_getElem?_getD, List.getElem?_map, List.getElem?_eq_getElem h]
  rfl
theorem bx_far {W : World} {g k : Nat} {l : List Value} (h : Bx W g l) (hk : k ≠ g) (i j : Nat) (u v : Value) : Bx ((W.setCell ⟨k, i, none⟩ u).setCell ⟨k, j, none⟩ v) g l := by
  obtain ⟨ty, h⟩ := h
  exact ⟨ty, by rw [Below.heap_setCell _ ⟨k, j, none⟩ _ _ (Ne.symm hk), Below.heap_setCell _ ⟨k, i, none⟩ _ _ (Ne.symm hk)]; exact h⟩
theorem Bx.c2 {W : World} {g : Nat} {a b : Value} (h : Bx W g [a, b]) : W.cell? ⟨g, 0, none⟩ = some a ∧ W.cell? ⟨g, 1, none⟩ = some b := ⟨h.cell 0, h.cell 1⟩
structure WS (w : World) (X : Int) (s : Bool) (p : Option Addr) (l c : Nat) (W : World) : Prop where
  rbx : Bx W w.heap.size [.bool false, .slice none 0 0]
  sbx : Bx W (w.heap.size + 1) [.bool s, .slice p l c]
  sum : IsI (w.heap.size + 1 + 1) W (.agg #[.bool s, .slice p l c]) X 280
  bel : Below w.heap.size w W
theorem WS.below {w : World} {X : Int} {s : Bool} {p : Option Addr} {l c : Nat} {W W' : World} (h : WS w X s p l c W) (hb : Below W.heap.size W W') : WS w X s p l c W' :=
  ⟨h.rbx.below h.rbx.lt hb, h.sbx.below h.sbx.lt hb, h.sum.below hb, h.bel.trans (hb.mono h.bel.size)⟩
set_option maxRecDepth 100000 in
set_option maxHeartbeats 4000000 in
theorem wholeDivisor_any (wv cv : Value) (Wh : List Bool) (C : List (List UInt8)) (w : World) (hw : BoolsAt w wv Wh) (hc : StrsAt w cv C) (hlen : Wh.length = C.length) (hs : SmallS C) (hok : C.all textOk = true) (hT : Tabs w) :
    Calls Tryz.prog 46 #[wv, cv] w fun e w' => ∃ s p l c g, e = .returned (.agg #[.bool s, .slice p l c]) ∧ IsWD Wh (numsT C) g ∧ IsI w.heap.size w' (.agg #[.bool s, .slice p l c]) g 280 ∧ Below w.heap.size w w' := by
  obtain ⟨pw, cw, rfl, w1, w2, w3⟩ := hw
  obtain ⟨pc, cc, rfl, c1, c2, c3⟩ := hc
  unfold maxLen at w2 c2
  have HW3 := hidG w3
  have HC3 := hidG c3
  have HS := hidG hs
  have HOK := hidG hok
  have HT := hidG hT
  have HNL : Hid ((numsT C).length = C.length) := by unfold Hid numsT; rw [List.length_map]
  have HLN := hidG hlen
  clear w3 c3 hs hok hT hlen
  go_enter Tryz.func46, Tryz.ntmps46
  go_wp2_with fail
  obtain ⟨W2, hW2, hb2, x1, x2, hs2⟩ := box2 w [.bool false, .slice none 0 0] [.bool false, .slice none 0 0] 82 82
  rw [hW2]
  have HM0 : Hid (WS w 0 false none 0 0 W2) := ⟨x1, x2, isI_zero _ _ _, hb2⟩
  clear hW2 hb2 x1 x2 hs2
  go_loopw [11] (fun iv wr => ∃ (k : Nat) (s : Bool) (p : Option Addr) (l c : Nat), k ≤ C.length ∧ iv = .int .i64 (k : Nat) ∧ (∀ i, i < k → Wh.getD i true = false → (numsT C).getD i 0 = 0) ∧ WS w (gcdK (numsT C) k) s p l c wr) (fun iv _ => C.length - (intOf iv).toNat)
  case atStart => exact ⟨0, false, none, 0, 0, Nat.zero_le _, rfl, fun i h => absurd h (Nat.not_lt_zero _), HM0.out⟩
  case round =>
    rename World => wo
    obtain ⟨k, s, q, l, c, hk, rfl, hz, hM⟩ := hrel
    have HM := hidG hM
    have HZ := hidG hz
    clear HM0 hz
    by_cases hlt : k < C.length
    · obtain ⟨b, rfl, hb, hA⟩ : ∃ b, pc = some ⟨b, 0, none⟩ ∧ b < w.heap.size ∧ ∀ i (h : i < C.length), w.cell? ⟨b, i, none⟩ = some (.string (strOf C[i])) := by
        rcases HC3.out with h | h
        · rw [h] at hlt; exact absurd hlt (Nat.not_lt_zero _)
        · exact h
      obtain ⟨bw, rfl, hbw, hAw⟩ : ∃ b, pw = some ⟨b, 0, none⟩ ∧ b < w.heap.size ∧ ∀ i (h : i < Wh.length), w.cell? ⟨b, i, none⟩ = some (.bool Wh[i]) := by
        rcases HW3.out with h | h
        · have hlen := HLN.out; rw [h] at hlen; rw [← hlen] at hlt; exact absurd hlt (Nat.not_lt_zero _)
        · exact h
      have hkw : k < Wh.length := by have := HLN.out; omega
      have k0 := hA k hlt
      have kw := hAw k hkw
      rw [← hM.bel.cell (p := ⟨b, k, none⟩) hb] at k0
      have HKW : Hid (∀ W, Below wo.heap.size wo W → W.cell? ⟨bw, k, none⟩ = some (.bool Wh[k])) := fun W hW => ((hM.bel.trans (hW.mono hM.bel.size)).cell (p := ⟨bw, k, none⟩) hbw).trans kw
      have HWD : Hid (Wh.getD k true = Wh[k]) := by unfold Hid; rw [List.getD_eq_getElem?_getD, List.getElem?_eq_getElem hkw]; rfl
      have HRD : Hid (∀ W, Calls Tryz.prog 49 #[.string (strOf C[k])] W fun e w' => ∃ s1 p l c, e = .returned (.agg #[.bool s1, .slice p l c]) ∧ IsI W.heap.size w' (.agg #[.bool s1, .slice p l c]) ((numsT C).getD k 0) 280 ∧ Below W.heap.size W w') := fun W => by
        rw [numsT_at hlt]
        exact cutI_any _ W (HS.out.2 _ (List.getElem_mem hlt)) (List.all_eq_true.1 HOK.out _ (List.getElem_mem hlt))
      obtain ⟨S, hS⟩ : ∃ S, strOf C[k] = S := ⟨_, rfl⟩
      obtain ⟨Bk, hBk⟩ : ∃ B, Wh[k] = B := ⟨_, rfl⟩
      rw [hS] at k0 HRD
      rw [hBk] at HKW HWD
      have hbwo : bw < wo.heap.size := Nat.lt_of_lt_of_le hbw hM.bel.size
      clear hA hAw hS hM kw hBk
      go_wp2_with fail
      refine (HRD.out _).mono ?_
      rintro e w1 ⟨s1, p1, l1, c1, rfl, hf, hb1⟩
      obtain ⟨W2, hW2⟩ : ∃ W2, w1.alloc (.cells #[.bool s1, .slice p1 l1 c1] 82) = W2 := ⟨_, rfl⟩
      have hB2 : Below w1.heap.size w1 W2 := by rw [← hW2]; exact below_alloc _ _
      have hX2 : Bx W2 w1.heap.size [.bool s1, .slice p1 l1 c1] := by rw [← hW2]; exact bx_new w1 _ _
      have HW2 := hidG hW2
      have hM2 := (HM.out.below hb1).below hB2
      have HM2 := hidG hM2
      have HF2 := hidG (hf.below hB2)
      have HBB : Hid (Below wo.heap.size wo W2) := hb1.trans (hB2.mono hb1.size)
      have hws : w.heap.size + 1 + 1 ≤ wo.heap.size := HM.out.sbx.lt
      have hw12 : wo.heap.size ≤ w1.heap.size := hb1.size
      have HCC : Hid (∀ W, Below W2.heap.size W2 W → (W.cell? ⟨w1.heap.size, 0, none⟩ = some (.bool s1) ∧ W.cell? ⟨w1.heap.size, 1, none⟩ = some (.slice p1 l1 c1)) ∧ (W.cell? ⟨w.heap.size + 1, 0, none⟩ = some (.bool s) ∧ W.cell? ⟨w.heap.size + 1, 1, none⟩ = some (.slice q l c)) ∧ W.frozen? ⟨w.heap.size + 1, 0, none⟩ = false ∧ W.frozen? ⟨w.heap.size + 1, 1, none⟩ = false) := fun W hW => by
        have hx := hX2.below hX2.lt hW
        have hy := hM2.sbx.below hM2.sbx.lt hW
        exact ⟨hx.c2, hy.c2, hy.frozen 0, hy.frozen 1⟩
      have HGC : Hid (∀ W, Below W2.heap.size W2 W → Calls Tryz.prog 74 #[.agg #[.bool s, .slice q l c], .agg #[.bool s1, .slice p1 l1 c1]] W fun e w' => ∃ z, e = .returned z ∧ IsI (w.heap.size + 1 + 1) w' z (gcdK (numsT C) (k + 1)) 280 ∧ Below W2.heap.size W2 w') := fun W hW => by
        refine (commonDivisor_any (w.heap.size + 1 + 1) _ _ _ _ 280 W (Nat.le_trans (Nat.le_trans (by omega) hB2.size) hW.size) (HM2.out.sum.below hW) ((HF2.out.mono (by omega) (Nat.le_refl _)).below hW) (by omega) (HT.out.below (HM2.out.bel.trans (hW.mono HM2.out.bel.size))).2.1).mono ?_
        rintro e w' ⟨z, rfl, hz, hb⟩
        exact ⟨z, rfl, hz, hW.trans (hb.mono hW.size)⟩
      have HNEW : Hid (∀ w4 s4 p4 l4 c4, Below W2.heap.size W2 w4 → IsI (w.heap.size + 1 + 1) w4 (.agg #[.bool s4, .slice p4 l4 c4]) (gcdK (numsT C) (k + 1)) 280 → WS w (gcdK (numsT C) (k + 1)) s4 p4 l4 c4 ((w4.setCell ⟨w.heap.size + 1, 0, none⟩ (.bool s4)).setCell ⟨w.heap.size + 1, 1, none⟩ (.slice p4 l4 c4))) := fun w4 s4 p4 l4 c4 hb4 hz4 => by
        have h4 := HM2.out.below hb4
        exact ⟨bx_far h4.rbx (by omega) _ _ _ _, (h4.sbx.set 0 _).set 1 _, (hz4.setCell ⟨w.heap.size + 1, 0, none⟩ _ (Nat.lt_succ_self _)).setCell ⟨w.heap.size + 1, 1, none⟩ _ (Nat.lt_succ_self _), (h4.bel.setCell (p := ⟨w.heap.size + 1, 0, none⟩) (by show _ ≤ w.heap.size + 1; omega) _).setCell (p := ⟨w.heap.size + 1, 1, none⟩) (by show _ ≤ w.heap.size + 1; omega) _⟩
      have HIZ := hidG (isI_isZero HF2.out)
      have kb := HKW.out W2 HBB.out
      obtain ⟨⟨y0, y1⟩, ⟨z0, z1⟩, y2, y3⟩ := HCC.out W2 (Below.refl _ _)
      have hbw2 : bw < W2.heap.size := Nat.lt_of_lt_of_le hbwo HBB.out.size
      have i1 : (k : Int) < (Wh.length : Int) := by omega
      clear hX2 hM2 hB2 hW2 hf hb1 HRD
      cases Bk with
      | true =>
        have HNX : Hid (∀ i, i < k + 1 → Wh.getD i true = false → (numsT C).getD i 0 = 0) := fun i hi h => by
          by_cases e : i = k
          · subst e; rw [HWD.out] at h; cases h
          · exact HZ.out i (by omega) h
        go_wp2_with (first | (rw [HW2.out]) | (go_at_call 74; refine (HGC.out _ (Below.refl _ _)).mono ?_; rintro e w4 ⟨z, rfl, hz4, hb4⟩; obtain ⟨s4, p4, l4, c4, rfl⟩ := hz4.shape; have HZ4 := hidG hz4; have HB4 := hidG hb4; obtain ⟨⟨m1, m2⟩, ⟨m3, m4⟩, m5, m6⟩ := HCC.out w4 hb4; clear hz4 hb4))
        go_roundw
        case rel => exact ⟨k + 1, _, _, _, _, by omega, by go_num, HNX.out, HNEW.out w4 s4 p4 l4 c4 HB4.out HZ4.out⟩
        case measure => simp [intOf]; omega
      | false =>
        by_cases h0 : (numsT C).getD k 0 = 0
        · have hl1 : ((l1 : Int) == 0) = true := by rw [HIZ.out]; exact decide_eq_true h0
          have HNX : Hid (∀ i, i < k + 1 → Wh.getD i true = false → (numsT C).getD i 0 = 0) := fun i hi h => by
            by_cases e : i = k
            · subst e; exact h0
            · exact HZ.out i (by omega) h
          clear h0
          go_wp2_with (first | (rw [HW2.out]) | (go_at_call 47; refine (isZero_any _ _ _ _ _).mono ?_; rintro e w3 ⟨rfl, hw3⟩; have HB3 : Hid (Below W2.heap.size W2 w3) := (by unfold Hid; rw [hw3]; exact below_alloc _ _); rw [hl1]; obtain ⟨⟨y0, y1⟩, ⟨z0, z1⟩, y2, y3⟩ := HCC.out w3 HB3.out; clear hw3) | (go_at_call 74; refine (HGC.out _ HB3.out).mono ?_; rintro e w4 ⟨z, rfl, hz4, hb4⟩; obtain ⟨s4, p4, l4, c4, rfl⟩ := hz4.shape; have HZ4 := hidG hz4; have HB4 := hidG hb4; obtain ⟨⟨m1, m2⟩, ⟨m3, m4⟩, m5, m6⟩ := HCC.out w4 hb4; clear hz4 hb4))
          go_roundw
          case rel => exact ⟨k + 1, _, _, _, _, by omega, by go_num, HNX.out, HNEW.out w4 s4 p4 l4 c4 HB4.out HZ4.out⟩
          case measure => simp [intOf]; omega
        · have hl1 : ((l1 : Int) == 0) = false := by rw [HIZ.out]; exact decide_eq_false h0
          have H0 := hidG h0
          clear h0
          go_wp2_with (first | (rw [HW2.out]) | (go_at_call 47; refine (isZero_any _ _ _ _ _).mono ?_; rintro e w3 ⟨rfl, hw3⟩; have HB3 : Hid (Below W2.heap.size W2 w3) := (by unfold Hid; rw [hw3]; exact below_alloc _ _); rw [hl1]; have hx3 := (HM2.out.below HB3.out).rbx; obtain ⟨r0, r1⟩ := hx3.c2; have r2 := hx3.frozen 0; have r3 := hx3.frozen 1; have HX3 := hidG hx3; clear hx3 hw3))
          have HE := hidG ((HX3.out.set 0 (.bool false)).set 1 (.slice none 0 0))
          obtain ⟨e0, e1⟩ := HE.out.c2
          have HBE : Hid (Below w.heap.size w ((w3.setCell ⟨w.heap.size, 0, none⟩ (.bool false)).setCell ⟨w.heap.size, 1, none⟩ (.slice none 0 0))) := ((HM2.out.below HB3.out).bel.setCell (p := ⟨w.heap.size, 0, none⟩) (Nat.le_refl _) _).setCell (p := ⟨w.heap.size, 1, none⟩) (Nat.le_refl _) _
          refine bodyPost_ret (v := .agg #[.bool false, .slice none 0 0]) ?_ rfl ⟨_, _, _, _, 0, rfl, .inl ⟨⟨k, by rw [HNL.out]; exact hlt, HWD.out, H0.out⟩, rfl⟩, isI_zero _ _ _, HBE.out⟩
          simp [results, Tryz.results46, go_sem, e0, e1]
    · have hie : k = C.length := by omega
      rw [hie] at HM HZ
      have hx3 := hM.rbx
      obtain ⟨r0, r1⟩ := hx3.c2
      have r2 := hx3.frozen 0
      have r3 := hx3.frozen 1
      obtain ⟨z0, z1⟩ := hM.sbx.c2
      have HX3 := hidG hx3
      clear hM hie hx3
      go_wp2_with fail
      have HE := hidG ((HX3.out.set 0 (.bool s)).set 1 (.slice q l c))
      obtain ⟨e0, e1⟩ := HE.out.c2
      have HBE : Hid (Below w.heap.size w ((wo.setCell ⟨w.heap.size, 0, none⟩ (.bool s)).setCell ⟨w.heap.size, 1, none⟩ (.slice q l c))) := (HM.out.bel.setCell (p := ⟨w.heap.size, 0, none⟩) (Nat.le_refl _) _).setCell (p := ⟨w.heap.size, 1, none⟩) (Nat.le_refl _) _
      have HIE : Hid (IsI w.heap.size ((wo.setCell ⟨w.heap.size, 0, none⟩ (.bool s)).setCell ⟨w.heap.size, 1, none⟩ (.slice q l c)) (.agg #[.bool s, .slice q l c]) (gcdK (numsT C) C.length) 280) := ((HM.out.sum.setCell ⟨w.heap.size, 0, none⟩ _ (by show w.heap.size < _; omega)).setCell ⟨w.heap.size, 1, none⟩ _ (by show w.heap.size < _; omega)).mono (by omega) (Nat.le_refl _)
      refine bodyPost_ret (v := .agg #[.bool s, .slice q l c]) ?_ rfl ⟨_, _, _, _, _, rfl, .inr ⟨fun i hi => HZ.out i (by rw [HNL.out] at hi; exact hi), by rw [HNL.out]⟩, HIE.out, HBE.out⟩
      simp [results, Tryz.results46, go_sem, e0, e1]
open Go.ChangeShapes Go.WideShapes Go.ChangeAt Go.RowKit Go.Shelf
def cloneRenS : Go.Shelf.Ren := ⟨fun | 41 => 45 | n => n, fun | 22 => 42 | 23 => 9 | 4 => 4 | n => n, fun | n => n⟩
theorem cloneLaysS : Go.Proofs.SlLaysE0.n41 Tryz.prog cloneRenS := {
  mixed := by kernel_rfl
  f41 := ⟨Tryz.f45.name, by decide, Tryz.func45.trans (congrArg some (by kernel_rfl))⟩
  t4 := Tryz.underlying4
  a4 := Tryz.isAgg4
  z4 := Tryz.sizeOf4
  v4 := Tryz.zeroValue4
  t22 := Tryz.underlying42
  a22 := Tryz.isAgg42
  z22 := Tryz.sizeOf42
  v22 := Tryz.zeroValue42 }
def Plain (v : Value) : Prop := ∃ p n c, v = .slice p n c ∧ (p = none ∨ ∃ b, p = some ⟨b, 0, none⟩)
theorem cloneS_any (v : Value) (L : List (List UInt8)) (w : World) (h : StrsAt w v L) (hl : L.length ≤ 1048576) (hP : Plain v) :
    Calls Tryz.prog 45 #[v] w fun e w' => ∃ v', e = .returned v' ∧ w'.ownsRow w.heap.size 9 1 v' L.length (strsC L) ∧ Below w.heap.size w w' := by
  obtain ⟨p, c, rfl, h1, h2, h3⟩ := h
  obtain ⟨p', n', c', e, hp⟩ := hP
  simp only [Value.slice.injEq] at e
  obtain ⟨rfl, -, -⟩ := e
  obtain ⟨i0, hinf, hz0, hz1, hz2⟩ := info_str
  rcases hp with rfl | ⟨b, rfl⟩
  · obtain rfl : L = [] := by
      rcases h3 with h3 | ⟨b, e, _⟩
      · exact h3
      · cases e
    refine (AnyE.slices_Clone_nil cloneLaysS 0 c w).mono ?_
    rintro e w' ⟨rfl, rfl⟩
    exact ⟨_, rfl, ⟨rfl, .inl ⟨rfl, rfl⟩⟩, Below.refl _ _⟩
  · refine (AnyE.slices_Clone cloneLaysS i0 (.string ⟨#[]⟩) 1 16 hinf hz0 hz1 hz2 rfl (by omega) Tryz.sizeOf9 b 0 L.length c (strsC L) w (by simp [strsC]) (by unfold maxLen; omega) (by omega) ?_ ?_).mono ?_
    · intro j u hj
      rw [Nat.zero_add]
      simp only [strsC, List.getElem?_map, Option.map_eq_some_iff] at hj
      obtain ⟨x, hx, rfl⟩ := hj
      obtain ⟨hlt, rfl⟩ := List.getElem?_eq_some_iff.1 hx
      rcases h3 with h3 | ⟨b', e, _, hc⟩
      · rw [h3] at hlt; exact absurd hlt (Nat.not_lt_zero _)
      · cases e; exact hc j hlt
    · intro v hv
      simp only [strsC, List.mem_map] at hv
      obtain ⟨x, _, rfl⟩ := hv
      rfl
    · rintro e w' ⟨v', rfl, hown, -, hb⟩
      exact ⟨v', rfl, hown, hb⟩
end Go.Proofs.YtebldkelihmihaaGreatDoor.L

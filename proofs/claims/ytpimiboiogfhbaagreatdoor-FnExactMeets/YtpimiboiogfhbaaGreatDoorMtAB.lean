import Derived.Test.YtpimiboiogfhbaaGreatDoorLrAB
import Derived.Test.YtpimiboiogfhbaaGreatDoorTimes
import Derived.Test.YtpimiboiogfhbaaGreatDoorQQ
import Derived.Deep.AppendLies
import Derived.Test.YtpimiboiogfhbaaGreatDoorRatF
import Derived.Test.YtpimiboiogfhbaaGreatDoorU4
namespace Go.Proofs.YtpimiboiogfhbaaGreatDoor.L
open Go.ChangeShapes Go.WideShapes Go.ChangeAt Go.RowKit
/-- A number of the program, where the blocks that it lies in are as they were. -/
theorem isI_kept {B : Nat} {W W' : World} {s : Bool} {p : Option Addr} {l c : Nat} {x : Int} {m : Nat} (h : IsI B W (.agg #[.bool s, .slice p l c]) x m) (hs : W.heap.size ≤ W'.heap.size) (hk : ∀ a, p = some a → 0 < l → W'.heap[a.block]? = W.heap[a.block]?) : IsI B W' (.agg #[.bool s, .slice p l c]) x m := by
  obtain ⟨neg, v, t, e, hL, r⟩ := h
  simp only [Value.agg.injEq, Array.mk.injEq, List.cons.injEq, Value.bool.injEq, and_true] at e
  obtain ⟨rfl, rfl⟩ := e
  obtain ⟨a, cap, e, h1, h2, h3, h4⟩ := hL
  simp only [Value.slice.injEq] at e
  obtain ⟨rfl, rfl, rfl⟩ := e
  refine ⟨neg, _, t, rfl, ⟨p, c, rfl, h1, h2, h3, ?_⟩, r⟩
  rcases h4 with h4 | ⟨b, off, rfl, hb1, hb2, hc⟩
  · exact .inl h4
  · by_cases ht : t = []
    · exact .inl ht
    have h0 : 0 < t.length := List.length_pos_iff.2 ht
    exact .inr ⟨b, off, rfl, hb1, Nat.lt_of_lt_of_le hb2 hs, fun i hi => (World.cell?_of_block (a := ⟨b, off + i, none⟩) (hk ⟨b, off, none⟩ rfl h0)).trans (hc i hi)⟩
theorem isI_from {B : Nat} {W : World} {s : Bool} {p : Option Addr} {l c : Nat} {x : Int} {m : Nat} (h : IsI B W (.agg #[.bool s, .slice p l c]) x m) : ∀ a, p = some a → 0 < l → B ≤ a.block ∧ a.block < W.heap.size := by
  obtain ⟨neg, v, t, e, hL, r⟩ := h
  simp only [Value.agg.injEq, Array.mk.injEq, List.cons.injEq, Value.bool.injEq, and_true] at e
  obtain ⟨rfl, rfl⟩ := e
  obtain ⟨a, cap, e, h1, h2, h3, h4⟩ := hL
  simp only [Value.slice.injEq] at e
  obtain ⟨rfl, rfl, rfl⟩ := e
  intro q hq hl
  rcases h4 with h4 | ⟨b, off, e, hb1, hb2, hc⟩
  · rw [h4] at hl; cases hl
  · rw [hq] at e; cases e; exact ⟨hb1, hb2⟩
/-- A row of numbers of the program. -/
def IntRow (base : Nat) (W : World) (v : Value) (N : List Int) (m : Nat) : Prop :=
  ∃ xs, W.ownsRow base 52 2 v N.length xs ∧ ∀ i (_ : i < N.length), ∃ s p l c, xs[i * 2]? = some (.bool s) ∧ xs[i * 2 + 1]? = some (.slice p l c) ∧ IsI base W (.agg #[.bool s, .slice p l c]) N[i] m ∧ ∀ a, p = some a → 0 < l → v.ownBlock ≠ some a.block
theorem IntRow.below {base : Nat} {W W' : World} {v : Value} {N : List Int} {m : Nat} (h : IntRow base W v N m) (hb : Below W.heap.size W W') : IntRow base W' v N m := by
  obtain ⟨xs, h1, h2⟩ := h
  refine ⟨xs, row_below h1 hb, fun i hi => ?_⟩
  obtain ⟨s, p, l, c, e1, e2, hI, ha⟩ := h2 i hi
  exact ⟨s, p, l, c, e1, e2, hI.below hb, ha⟩
theorem IntRow.wide {base : Nat} {W : World} {v : Value} {N : List Int} {m m' : Nat} (h : IntRow base W v N m) (hm : m ≤ m') : IntRow base W v N m' := by
  obtain ⟨xs, h1, h2⟩ := h
  refine ⟨xs, h1, fun i hi => ?_⟩
  obtain ⟨s, p, l, c, e1, e2, hI, ha⟩ := h2 i hi
  exact ⟨s, p, l, c, e1, e2, hI.mono (Nat.le_refl _) hm, ha⟩
theorem IntRow.nil (base : Nat) (W : World) (m : Nat) : IntRow base W (.slice none 0 0) [] m := ⟨[], World.ownsRow_nil _ _ _ _, fun _ hi => absurd hi (Nat.not_lt_zero _)⟩
/-- One of them stored anew. -/
theorem IntRow.set {base : Nat} {W : World} {g n cap : Nat} {N : List Int} {m : Nat} (h : IntRow base W (.slice (some ⟨g, 0, none⟩) n cap) N m) {i : Nat} (hi : i < N.length) {s : Bool} {p : Option Addr} {l c : Nat} {y : Int} (hy : IsI base W (.agg #[.bool s, .slice p l c]) y m) (ha : ∀ a, p = some a → 0 < l → g ≠ a.block) :
    IntRow base ((W.setCell ⟨g, i * 2, none⟩ (.bool s)).setCell ⟨g, i * 2 + 1, none⟩ (.slice p l c)) (.slice (some ⟨g, 0, none⟩) n cap) (N.set i y) m := by
  obtain ⟨xs, h1, h2⟩ := h
  have hn : n = N.length := by
    rcases h1.2 with ⟨e, _⟩ | ⟨_, _, _, e, _⟩ <;> cases e <;> rfl
  subst hn
  have hx : xs.length = N.length * 2 := h1.1
  have hs : W.heap.size ≤ ((W.setCell ⟨g, i * 2, none⟩ (.bool s)).setCell ⟨g, i * 2 + 1, none⟩ (.slice p l c)).heap.size := by simp
  have hk : ∀ b, b ≠ g → ((W.setCell ⟨g, i * 2, none⟩ (.bool s)).setCell ⟨g, i * 2 + 1, none⟩ (.slice p l c)).heap[b]? = W.heap[b]? := fun b hb => by
    rw [Below.heap_setCell _ ⟨g, i * 2 + 1, none⟩ _ _ hb, Below.heap_setCell _ ⟨g, i * 2, none⟩ _ _ hb]
  refine ⟨(xs.set (i * 2) (.bool s)).set (i * 2 + 1) (.slice p l c), ?_, fun j hj => ?_⟩
  · have := ((h1.stored (i * 2) (.bool s)).1.stored (i * 2 + 1) (.slice p l c)).1
    rw [List.length_set]
    exact this
  · rw [List.length_set] at hj
    by_cases e : j = i
    · subst e
      refine ⟨s, p, l, c, ?_, ?_, ?_, fun a e1 e2 e3 => ha a e1 e2 (by cases e3; rfl)⟩
      · rw [List.getElem?_set_ne (by omega), List.getElem?_set_self (by omega)]
      · rw [List.getElem?_set_self (by simp; omega)]
      · rw [List.getElem_set_self]
        exact isI_kept hy hs (fun a e1 e2 => hk _ (fun e3 => ha a e1 e2 e3.symm))
    · obtain ⟨s', p', l', c', e1, e2, hI, ha'⟩ := h2 j hj
      refine ⟨s', p', l', c', ?_, ?_, ?_, ha'⟩
      · rw [List.getElem?_set_ne (by omega), List.getElem?_set_ne (by omega)]; exact e1
      · rw [List.getElem?_set_ne (by omega), List.getElem?_set_ne (by omega)]; exact e2
      · rw [List.getElem_set_ne (Ne.symm e)]
        exact isI_kept hI hs (fun a q1 q2 => hk _ (fun e3 => ha' a q1 q2 (by rw [e3]; rfl)))
theorem IntRow.low {base : Nat} {W : World} {v : Value} {N : List Int} {m : Nat} (h : IntRow base W v N m) (a : Addr) (u : Value) (ha : a.block < base) : IntRow base (W.setCell a u) v N m := by
  obtain ⟨xs, h1, h2⟩ := h
  refine ⟨xs, ownsRow_setCell_below h1 ha u, fun i hi => ?_⟩
  obtain ⟨s, p, l, c, e1, e2, hI, hp⟩ := h2 i hi
  exact ⟨s, p, l, c, e1, e2, hI.setC a u ha, hp⟩
theorem info_z0 : (Tryz.prog.info? 52).map (fun i => (i.zero, i.size, i.bytes)) = some (some (.agg #[.bool false, .slice none 0 0]), 2, 32) := by kernel_rfl
theorem info_z : ∃ i : TypeInfo, Tryz.prog.info? 52 = some i ∧ i.zero = some (.agg #[.bool false, .slice none 0 0]) ∧ i.size = 2 ∧ i.bytes = 32 := info_parts info_z0
/-- A number behind a row of numbers. -/
theorem wpList_appZ {ops : Array Oper} {rest : List Oper} {o : Oper} {a : Act} {Q : Exit → Act → World → Prop} {W : World} {base : Nat} {v : Value} {N : List Int} {m : Nat} (hgd : o.guard = none) (s y : Operand)
    (ho : o.op = .call { callee := .builtin .append, args := #[s, y], argTypes := #[50, 50] }) (hs : a.eval s = v) (hown : IntRow base W v N m) {sg : Bool} {p : Option Addr} {l c : Nat} {x : Int} (hz : IsI base W (.agg #[.bool sg, .slice p l c]) x m) (hap : ∀ q, p = some q → 0 < l → v.ownBlock ≠ some q.block)
    (H : Nat) (hx : a.eval y = .slice (some ⟨H, 0, none⟩) 1 1) (hH : W.heap.size = H) (n : Nat) (hnl : N.length = n) (hn : n ≤ 1000000000) (hbase : base ≤ W.heap.size)
    (h : ∀ g cap W', IntRow base W' (.slice (some ⟨g, 0, none⟩) (n + 1) cap) (N ++ [x]) m → W.heap.size < W'.heap.size → (v.ownBlock = some g ∨ g = W.heap.size + 1) → W.grownBy W' v.ownBlock → wpList Tryz.prog ops Q rest (a.put o.dst (.slice (some ⟨g, 0, none⟩) (n + 1) cap)) W') :
    wpList Tryz.prog ops Q (o :: rest) a (W.alloc (.cells #[.bool sg, .slice p l c] 52)) := by
  subst hH
  subst hnl
  obtain ⟨i0, hinf, hz0, hz1, hz2⟩ := info_z
  obtain ⟨xs, h1, h2⟩ := hown
  refine wpList_append_lies _ hgd s y 50 ho base 52 i0 (.agg #[.bool false, .slice none 0 0]) 2 32 Tryz.underlying50 hinf hz0 hz1 hz2 rfl (by decide) v N.length xs hs (h1.alloc _) ⟨W.heap.size, 0, none⟩ 1 1 [.bool sg, .slice p l c] hx rfl
    (World.news_of_block (cs := #[.bool sg, .slice p l c]) (t := 52) (fr := (0, 0)) (heap_alloc_new W _)) (by simp [Value.oneCell']) (by decide) (by unfold maxLen; omega) (by omega) (by simp; omega) _ rfl ?_
  intro g cap W' k1 k2 k3 k4
  have hsz : W.heap.size < W'.heap.size := by have := k2.size; simp at this; omega
  have hkeep : ∀ b, b < W.heap.size → v.ownBlock ≠ some b → W'.heap[b]? = W.heap[b]? := fun b hb hne => by
    rw [k2.block b (by simp; omega) (by intro e; exact hne e.symm)]
    exact (below_alloc W _).block b hb
  have hk3 : v.ownBlock = some g ∨ g = W.heap.size + 1 := by
    rcases k3 with e | e
    · exact .inl e
    · exact .inr (by simpa using e)
  have hgr : W.grownBy W' v.ownBlock := (World.grownBy_alloc W _ v.ownBlock).trans k2
  refine h g cap W' ⟨_, by rw [List.length_append]; exact k1, fun i hi => ?_⟩ hsz hk3 hgr
  · rw [List.length_append] at hi
    have hx : xs.length = N.length * 2 := h1.1
    have hgne : ∀ q : Addr, q.block < W.heap.size → v.ownBlock ≠ some q.block → g ≠ q.block := fun q hq hne e => by
      rcases k3 with k3 | k3
      · exact hne (by rw [k3, e])
      · simp at k3; omega
    by_cases e : i < N.length
    · obtain ⟨s', p', l', c', e1, e2, hI, ha'⟩ := h2 i e
      refine ⟨s', p', l', c', ?_, ?_, ?_, fun q q1 q2 q3 => ?_⟩
      · rw [List.getElem?_append_left (by omega)]; exact e1
      · rw [List.getElem?_append_left (by omega)]; exact e2
      · rw [List.getElem_append_left e]
        exact isI_kept hI (Nat.le_of_lt hsz) (fun q q1 q2 => hkeep _ (isI_from hI q q1 q2).2 (ha' q q1 q2))
      · exact hgne q (isI_from hI q q1 q2).2 (ha' q q1 q2) (by cases q3; rfl)
    · have hie : i = N.length := by simp at hi; omega
      subst hie
      refine ⟨sg, p, l, c, ?_, ?_, ?_, fun q q1 q2 q3 => ?_⟩
      · rw [List.getElem?_append_right (by omega), show N.length * 2 - xs.length = 0 by omega]; rfl
      · rw [List.getElem?_append_right (by omega), show N.length * 2 + 1 - xs.length = 1 by omega]; rfl
      · simp only [List.getElem_append_right (Nat.le_refl _), Nat.sub_self, List.getElem_cons_zero]
        exact isI_kept hz (Nat.le_of_lt hsz) (fun q q1 q2 => hkeep _ (isI_from hz q q1 q2).2 (hap q q1 q2))
      · exact hgne q (isI_from hz q q1 q2).2 (hap q q1 q2) (by cases q3; rfl)
end Go.Proofs.YtpimiboiogfhbaaGreatDoor.L
namespace Go.Proofs.YtpimiboiogfhbaaGreatDoor.L
open Go.ChangeShapes Go.WideShapes Go.ChangeAt Go.RowKit
/-- A text that tells x / y. -/
def RatIs (s : List UInt8) (x y : Int) : Prop := ∃ k, IsCut (strOf s) k ∧ RatV (strOf s) k x y
def Comm (V : List (Int × Int)) (N : List Int) (D : Int) : Prop := N.length = V.length ∧ 0 < D ∧ ∀ i (_ : i < V.length) (_ : i < N.length), N[i] * V[i].2 = V[i].1 * D
/-- The three tables. -/
def Tabs (w : World) : Prop := SP w ∧ NS w ∧ LT w
theorem Tabs.below {w w' : World} (h : Tabs w) (hb : Below w.heap.size w w') : Tabs w' := ⟨h.1.below hb, h.2.1.below hb, h.2.2.below hb⟩
theorem Comm.next {V : List (Int × Int)} {N : List Int} {D x y : Int} (h : Comm V N D) (hy : 0 < y) : Comm (V ++ [(x, y)]) (N.map (· * y) ++ [x * D]) (D * y) := by
  obtain ⟨h1, h2, h3⟩ := h
  refine ⟨by simp [h1], Int.mul_pos h2 hy, fun i hi hi' => ?_⟩
  by_cases e : i < V.length
  · have e' : i < N.length := by omega
    have := h3 i e e'
    rw [List.getElem_append_left (by simpa using e'), List.getElem_append_left e, List.getElem_map]
    rw [Int.mul_assoc, Int.mul_comm y, ← Int.mul_assoc, this, Int.mul_assoc]
  · have hie : i = V.length := by simp at hi; omega
    subst hie
    rw [List.getElem_append_right (by simp [h1]), List.getElem_append_right (Nat.le_refl _)]
    simp only [Nat.sub_self, List.length_map, h1, List.getElem_cons_zero]
    rw [Int.mul_assoc]
/-- What a loop over the numbers has done so far. -/
def half (N : List Int) (y : Int) (j : Nat) : List Int := (N.take j).map (· * y) ++ N.drop j
theorem half_len (N : List Int) (y : Int) (j : Nat) : (half N y j).length = N.length := by unfold half; simp; omega
theorem half_at (N : List Int) (y : Int) (j : Nat) (h : j < N.length) : (half N y j)[j]'(by rw [half_len]; exact h) = N[j] := by
  unfold half
  rw [List.getElem_append_right (by simp; omega)]
  simp [Nat.min_eq_left (Nat.le_of_lt h)]
theorem half_next (N : List Int) (y : Int) (j : Nat) (h : j < N.length) : (half N y j).set j (N[j] * y) = half N y (j + 1) := by
  unfold half
  have hl : ((N.take j).map (· * y)).length = j := by simp; omega
  rw [List.set_append_right _ _ (by omega), hl, Nat.sub_self, List.drop_eq_getElem_cons h, List.set_cons_zero, List.take_succ_eq_append_getElem h, List.map_append, List.append_assoc]
  rfl
theorem half_all (N : List Int) (y : Int) : half N y N.length = N.map (· * y) := by unfold half; simp
theorem Bx.c2 {W : World} {g : Nat} {a b : Value} (h : Bx W g [a, b]) : W.cell? ⟨g, 0, none⟩ = some a ∧ W.cell? ⟨g, 1, none⟩ = some b := ⟨h.cell 0, h.cell 1⟩
theorem Bx.c4 {W : World} {g : Nat} {a b c d : Value} (h : Bx W g [a, b, c, d]) : W.cell? ⟨g, 0, none⟩ = some a ∧ W.cell? ⟨g, 1, none⟩ = some b ∧ W.cell? ⟨g, 2, none⟩ = some c ∧ W.cell? ⟨g, 3, none⟩ = some d := ⟨h.cell 0, h.cell 1, h.cell 2, h.cell 3⟩
/-- The loop's state: so many texts are read. -/
structure CN (L : List (List UInt8)) (w : World) (k : Nat) (nv : Value) (V : List (Int × Int)) (N : List Int) (D : Int) (s : Bool) (p : Option Addr) (l c : Nat) (W : World) : Prop where
  len : V.length = k
  rat : ∀ i (_ : i < L.length) (_ : i < V.length), RatIs L[i] V[i].1 V[i].2
  com : Comm V N D
  row : IntRow (w.heap.size + 1) W nv N 6300
  box : Bx W w.heap.size [.bool s, .slice p l c]
  div : IsI (w.heap.size + 1) W (.agg #[.bool s, .slice p l c]) D 6300
  bnd : (∀ x ∈ N, x.natAbs < lb (280 * k + 1)) ∧ D.natAbs < lb (280 * k + 1)
  bel : Below w.heap.size w W
  dap : ∀ a, p = some a → 0 < l → nv.ownBlock ≠ some a.block
theorem CN.below {L : List (List UInt8)} {w : World} {k : Nat} {nv : Value} {V : List (Int × Int)} {N : List Int} {D : Int} {s : Bool} {p : Option Addr} {l c : Nat} {W W' : World} (h : CN L w k nv V N D s p l c W) (hb : Below W.heap.size W W') : CN L w k nv V N D s p l c W' :=
  ⟨h.len, h.rat, h.com, h.row.below hb, h.box.below h.box.lt hb, h.div.below hb, h.bnd, h.bel.trans (hb.mono h.bel.size), h.dap⟩
/-- The inner loop's state. -/
structure CI (w : World) (gx : Nat) (nv : Value) (M : List Int) (D X Y : Int) (s : Bool) (p : Option Addr) (l c : Nat) (s1 : Bool) (p1 : Option Addr) (l1 c1 : Nat) (s2 : Bool) (p2 : Option Addr) (l2 c2 : Nat) (W : World) : Prop where
  row : IntRow (w.heap.size + 1) W nv M 6300
  box : Bx W w.heap.size [.bool s, .slice p l c]
  xbx : Bx W gx [.bool s1, .slice p1 l1 c1, .bool s2, .slice p2 l2 c2]
  div : IsI (w.heap.size + 1) W (.agg #[.bool s, .slice p l c]) D 6300
  num : IsI (w.heap.size + 1) W (.agg #[.bool s1, .slice p1 l1 c1]) X 300
  den : IsI (w.heap.size + 1) W (.agg #[.bool s2, .slice p2 l2 c2]) Y 300
  bel : Below w.heap.size w W
theorem CI.below {w : World} {gx : Nat} {nv : Value} {M : List Int} {D X Y : Int} {s : Bool} {p : Option Addr} {l c : Nat} {s1 : Bool} {p1 : Option Addr} {l1 c1 : Nat} {s2 : Bool} {p2 : Option Addr} {l2 c2 : Nat} {W W' : World} (h : CI w gx nv M D X Y s p l c s1 p1 l1 c1 s2 p2 l2 c2 W) (hb : Below W.heap.size W W') : CI w gx nv M D X Y s p l c s1 p1 l1 c1 s2 p2 l2 c2 W' :=
  ⟨h.row.below hb, h.box.below h.box.lt hb, h.xbx.below h.xbx.lt hb, h.div.below hb, h.num.below hb, h.den.below hb, h.bel.trans (hb.mono h.bel.size)⟩
theorem bx_far {W : World} {g k : Nat} {l : List Value} (h : Bx W g l) (hk : k ≠ g) (i j : Nat) (u v : Value) : Bx ((W.setCell ⟨k, i, none⟩ u).setCell ⟨k, j, none⟩ v) g l := by
  obtain ⟨ty, h⟩ := h
  refine ⟨ty, ?_⟩
  rw [Below.heap_setCell _ ⟨k, j, none⟩ _ _ (Ne.symm hk), Below.heap_setCell _ ⟨k, i, none⟩ _ _ (Ne.symm hk)]
  exact h
theorem isI_far {B : Nat} {W : World} {s : Bool} {p : Option Addr} {l c : Nat} {x : Int} {m g : Nat} (h : IsI B W (.agg #[.bool s, .slice p l c]) x m) (ha : ∀ a, p = some a → 0 < l → g ≠ a.block) (i j : Nat) (u v : Value) : IsI B ((W.setCell ⟨g, i, none⟩ u).setCell ⟨g, j, none⟩ v) (.agg #[.bool s, .slice p l c]) x m :=
  isI_kept h (by simp) (fun a e1 e2 => by
    have := ha a e1 e2
    rw [Below.heap_setCell _ ⟨g, j, none⟩ _ _ (Ne.symm this), Below.heap_setCell _ ⟨g, i, none⟩ _ _ (Ne.symm this)])
theorem bx_grown {W W' : World} {g : Nat} {l : List Value} {o : Option Nat} (h : Bx W g l) (hg : W.grownBy W' o) (ho : o ≠ some g) : Bx W' g l := by
  have hlt := h.lt
  obtain ⟨ty, h⟩ := h
  exact ⟨ty, (hg.block g hlt (Ne.symm ho)).trans h⟩
theorem isI_grown {B : Nat} {W W' : World} {s : Bool} {p : Option Addr} {l c : Nat} {x : Int} {m : Nat} {o : Option Nat} (h : IsI B W (.agg #[.bool s, .slice p l c]) x m) (hg : W.grownBy W' o) (ha : ∀ a, p = some a → 0 < l → o ≠ some a.block) : IsI B W' (.agg #[.bool s, .slice p l c]) x m :=
  isI_kept h hg.size (fun a e1 e2 => hg.block _ (isI_from h a e1 e2).2 (Ne.symm (ha a e1 e2)))
theorem big_tight {B : Nat} {w : World} {z : Value} {x y : Int} {n a : Nat} (h : IsI B w z (x * y) n) (hx : x.natAbs < lb a) (hy : y.natAbs < lb 280) (ha : a + 280 ≤ 6300) : IsI B w z (x * y) 6300 :=
  (h.tight (k := a + 280) (by rw [Int.natAbs_mul]; exact lb_mul a 280 hx hy)).mono (Nat.le_refl _) ha
set_option maxRecDepth 100000 in
set_option maxHeartbeats 4000000 in
theorem commonNumbers_any (v : Value) (L : List (List UInt8)) (w : World) (h : StrsAt w v L) (hs : SmallS L) (hl : L.length ≤ 20) (hT : Tabs w) :
    Calls Tryz.prog 20 #[v] w fun e w' => ((∃ s ∈ L, ∀ x y, ¬ RatIs s x y) ∧ (∃ vn zd, e = .returned (.tuple #[vn, zd, .bool false]) ∧ (∃ a b c, vn = .slice a b c) ∧ ∃ s p l c, zd = .agg #[.bool s, .slice p l c]) ∨
      ∃ (V : List (Int × Int)) (N : List Int) (D : Int) (vn zd : Value), V.length = L.length ∧ (∀ i (h : i < L.length) (h' : i < V.length), RatIs L[i] V[i].1 V[i].2) ∧ e = .returned (.tuple #[vn, zd, .bool true]) ∧ IntRow (w.heap.size + 1) w' vn N 6300 ∧ IsI (w.heap.size + 1) w' zd D 6300 ∧ Comm V N D) ∧ Below w.heap.size w w' := by
  obtain ⟨p, c, rfl, h1, h2, h3⟩ := h
  unfold maxLen at h2
  have H3 := hidG h3
  have HS := hidG hs
  have HT := hidG hT
  clear h3 hs hT
  go_enter Tryz.func20, Tryz.ntmps20
  go_wp2_with fail
  obtain ⟨W0, hW0⟩ : ∃ W0, w.alloc (.cells #[.bool false, .slice none 0 0] 52) = W0 := ⟨_, rfl⟩
  have HB0 : Hid (Below w.heap.size w W0) := by unfold Hid; rw [← hW0]; exact below_alloc _ _
  have HX0 : Hid (Bx W0 w.heap.size [.bool false, .slice none 0 0]) := by unfold Hid; rw [← hW0]; exact bx_new w _ _
  have HZ0 : Hid (W0.heap.size = w.heap.size + 1) := by unfold Hid; rw [← hW0]; simp
  rw [hW0]
  clear hW0
  refine (wholeNumber_any 1 W0 (by decide)).mono ?_
  rintro e w1 ⟨z, rfl, hz, hb1⟩
  obtain ⟨s0, p0, l0, c0, rfl⟩ := hz.shape
  have hx1 := HX0.out.below HX0.out.lt hb1
  obtain ⟨b0, b1⟩ := hx1.c2
  have f0 := hx1.frozen 0
  have f1 := hx1.frozen 1
  have HST : Hid (CN L w 0 (.slice none 0 0) [] [] 1 s0 p0 l0 c0 ((w1.setCell ⟨w.heap.size, 0, none⟩ (.bool s0)).setCell ⟨w.heap.size, 1, none⟩ (.slice p0 l0 c0))) := by
    refine ⟨rfl, fun i _ h => absurd h (Nat.not_lt_zero _), ⟨rfl, by decide, fun i h => absurd h (Nat.not_lt_zero _)⟩, IntRow.nil _ _ _, (hx1.set 0 _).set 1 _, ?_, ⟨fun _ h => (by cases h), lb_one 1 (by decide)⟩, ?_, fun _ _ _ h => (by cases h)⟩
    · rw [HZ0.out] at hz
      exact ((hz.setC ⟨w.heap.size, 0, none⟩ _ (Nat.lt_succ_self _)).setC ⟨w.heap.size, 1, none⟩ _ (Nat.lt_succ_self _)).mono (Nat.le_refl _) (by omega)
    · exact ((HB0.out.trans (hb1.mono HB0.out.size)).setCell (p := ⟨w.heap.size, 0, none⟩) (Nat.le_refl _) _).setCell (p := ⟨w.heap.size, 1, none⟩) (Nat.le_refl _) _
  clear hz hb1 hx1
  go_wp2_with fail
  go_loopw [2, 13] (fun nv iv wr => ∃ (k : Nat) (V : List (Int × Int)) (N : List Int) (D : Int) (s : Bool) (q : Option Addr) (l c : Nat), k ≤ L.length ∧ iv = .int .i64 (k : Nat) ∧ CN L w k nv V N D s q l c wr) (fun _ iv _ => L.length - (intOf iv).toNat)
  case atStart => exact ⟨0, [], [], 1, s0, p0, l0, c0, Nat.zero_le _, rfl, HST.out⟩
  case round =>
    rename World => wo
    obtain ⟨k, V, N, D, s, q, l, c', hk, rfl, hC⟩ := hrel
    have HC := hidG hC
    clear HST b0 b1 f0 f1
    have hvn : ∃ a b, u2 = .slice a N.length b := by
      obtain ⟨xs, hr, _⟩ := hC.row
      rcases hr.2 with ⟨e, e2⟩ | ⟨g, cap, cur, e, _⟩
      · exact ⟨none, 0, by rw [e, e2]⟩
      · exact ⟨_, _, e⟩
    obtain ⟨va, vb, rfl⟩ := hvn
    have HNK : Hid (N.length = k) := by unfold Hid; rw [hC.com.1, hC.len]
    have hn20 : N.length ≤ 20 := by have := HNK.out; omega
    by_cases hlt : k < L.length
    · obtain ⟨b, rfl, hb, hA⟩ : ∃ b, p = some ⟨b, 0, none⟩ ∧ b < w.heap.size ∧ ∀ i (h : i < L.length), w.cell? ⟨b, i, none⟩ = some (.string (strOf L[i])) := by
        rcases H3.out with h | h
        · rw [h] at hlt; exact absurd hlt (Nat.not_lt_zero _)
        · exact h
      have k0 := hA k hlt
      rw [← hC.bel.cell (p := ⟨b, k, none⟩) hb] at k0
      obtain ⟨kc, hkc⟩ := isCut_ex (strOf L[k])
      have HKC := hidG hkc
      have hsz : (strOf L[k]).size ≤ maxLen := by
        have := HS.out.2 _ (List.getElem_mem hlt)
        rw [strOf_size]; unfold maxLen; omega
      have HRD : Hid (∀ W, Below wo.heap.size wo W → Calls Tryz.prog 36 #[.string (strOf L[k])] W fun e w' => ∃ z ok, e = .returned (.tuple #[z, .bool ok]) ∧ ReadR W.heap.size w' (strOf L[k]) kc z ok ∧ Below W.heap.size W w') := fun W hW => by
        have hTW := (HT.out.below hC.bel).below hW
        exact readRational_any _ kc W hsz hkc hTW.1 hTW.2.1 hTW.2.2
      obtain ⟨S, hS⟩ : ∃ S, strOf L[k] = S := ⟨_, rfl⟩
      have HSS := hidG hS
      rw [hS] at k0 HRD HKC
      clear hA hC hkc hsz hS
      go_wp2_with fail
      refine (HRD.out _ (Below.refl _ _)).mono ?_
      rintro e w1 ⟨z, ok, rfl, hR, hb1⟩
      obtain ⟨⟨s1, p1, l1, c1, s2, p2, l2, c2, rfl⟩, hok, hyes⟩ := hR
      obtain ⟨W2, hW2⟩ : ∃ W2, w1.alloc (.cells #[.bool s1, .slice p1 l1 c1, .bool s2, .slice p2 l2 c2] 70) = W2 := ⟨_, rfl⟩
      have hB2 : Below w1.heap.size w1 W2 := by rw [← hW2]; exact below_alloc _ _
      have HX2 : Hid (Bx W2 w1.heap.size [.bool s1, .slice p1 l1 c1, .bool s2, .slice p2 l2 c2]) := by unfold Hid; rw [← hW2]; exact bx_new w1 _ _
      have HW2 := hidG hW2
      have HC2 := hidG ((HC.out.below hb1).below hB2)
      have HSZ : Hid (wo.heap.size ≤ w1.heap.size) := hb1.size
      cases ok with
      | false =>
        have HNO : Hid (∃ s ∈ L, ∀ x y, ¬ RatIs s x y) := ⟨_, List.getElem_mem hlt, fun x y ⟨k', h1, h2⟩ => by
          rw [HSS.out] at h1 h2
          obtain rfl := isCut_unique h1 HKC.out
          exact absurd (hok.2 ⟨x, y, h2⟩) (by decide)⟩
        obtain ⟨b0, b1⟩ := HC2.out.box.c2
        have f0 := HC2.out.box.frozen 0
        have f1 := HC2.out.box.frozen 1
        clear hok hyes hW2 hB2 hb1
        go_wp2_with (rw [HW2.out])
        have hx := (HC2.out.box.set 0 (.bool false)).set 1 (.slice none 0 0)
        obtain ⟨e0, e1⟩ := hx.c2
        have hBE := (HC2.out.bel.setCell (p := ⟨w.heap.size, 0, none⟩) (Nat.le_refl _) (.bool false)).setCell (p := ⟨w.heap.size, 1, none⟩) (Nat.le_refl _) (.slice none 0 0)
        refine bodyPost_ret (v := .tuple #[.slice none 0 0, .agg #[.bool false, .slice none 0 0], .bool false]) ?_ rfl ⟨.inl ⟨HNO.out, _, _, rfl, ⟨_, _, _, rfl⟩, _, _, _, _, rfl⟩, hBE⟩
        clear hBE hx
        simp [results, Tryz.results20, go_sem, e0, e1]
      | true =>
        obtain ⟨X, Y, hV, hq⟩ := hyes rfl
        have HRV : Hid (RatIs L[k] X Y) := ⟨kc, by rw [HSS.out]; exact HKC.out, by rw [HSS.out]; exact hV⟩
        have HY : Hid (0 < Y) := (ratV_lt hV).2.2
        have HXY : Hid (X.natAbs < lb 280 ∧ Y.natAbs < lb 280) := ⟨(ratV_lt hV).1, (ratV_lt hV).2.1⟩
        obtain ⟨_, _, _, _, e, hn, hd⟩ := hq
        simp only [Value.agg.injEq, Array.mk.injEq, List.cons.injEq, Value.bool.injEq, and_true] at e
        obtain ⟨rfl, rfl, rfl, rfl⟩ := e
        have HAN : Hid (∀ a, p1 = some a → 0 < l1 → wo.heap.size ≤ a.block ∧ a.block < w1.heap.size) := isI_from hn
        have HAD : Hid (∀ a, p2 = some a → 0 < l2 → wo.heap.size ≤ a.block ∧ a.block < w1.heap.size) := isI_from hd
        have hws : w.heap.size + 1 ≤ wo.heap.size := HC.out.box.lt
        have HROW : Hid (∀ g, va = some ⟨g, 0, none⟩ → w.heap.size + 1 ≤ g ∧ g < wo.heap.size) := fun g e => by
          obtain ⟨xs, hr, _⟩ := HC.out.row
          exact hr.lt g (by rw [e]; rfl)
        have HCI : Hid (CI w w1.heap.size (.slice va N.length vb) (half N Y 0) D X Y s q l c' s1 p1 l1 c1 s2 p2 l2 c2 W2) := by
          have h0 : half N Y 0 = N := by simp [half]
          rw [Hid, h0]
          exact ⟨HC2.out.row, HC2.out.box, HX2.out, HC2.out.div, (hn.mono hws (Nat.le_refl _)).below hB2, (hd.mono hws (Nat.le_refl _)).below hB2, HC2.out.bel⟩
        have HTB : Hid (∀ W, Below w.heap.size w W → SP W) := fun W hW => (HT.out.below hW).1
        clear hok hyes hW2 hB2 hb1 hV hn hd
        go_wp2_with (rw [HW2.out])
        go_loopw [27] (fun jv wr => ∃ j : Nat, j ≤ N.length ∧ jv = .int .i64 (j : Nat) ∧ CI w w1.heap.size (.slice va N.length vb) (half N Y j) D X Y s q l c' s1 p1 l1 c1 s2 p2 l2 c2 wr) (fun jv _ => N.length - (intOf jv).toNat)
        case atStart => exact ⟨0, Nat.zero_le _, rfl, HCI.out⟩
        case round =>
          rename World => wi
          obtain ⟨j, hj, rfl, hI⟩ := hrel
          have HI := hidG hI
          by_cases hjl : j < N.length
          · have hjh : j < (half N Y j).length := by rw [half_len]; exact hjl
            obtain ⟨xs, hr, hel⟩ := hI.row
            rw [half_len] at hr
            obtain ⟨g, rfl⟩ : ∃ g, va = some ⟨g, 0, none⟩ := by
              rcases hr.2 with ⟨_, e2⟩ | ⟨g, cap, cur, e, _⟩
              · omega
              · cases e; exact ⟨g, rfl⟩
            obtain ⟨s3, p3, l3, c3, e1, e2, h3I, h3a⟩ := hel j hjh
            rw [half_at N Y j hjl] at h3I
            have k1 := hr.cellAt (j * 2) (by omega)
            have k2 := hr.cellAt (j * 2 + 1) (by omega)
            rw [e1] at k1
            rw [e2] at k2
            have g1 := hr.frozenAt (j * 2)
            have g2 := hr.frozenAt (j * 2 + 1)
            obtain ⟨x0, x1, x2, x3⟩ := hI.xbx.c4
            have hgg := HROW.out g rfl
            have hgw : g < wi.heap.size := Nat.lt_of_lt_of_le hgg.2 (by have := HSZ.out; have := hI.xbx.lt; omega)
            have HK : Hid (∀ W, Below wi.heap.size wi W → (W.cell? ⟨g, j * 2, none⟩ = some (.bool s3) ∧ W.cell? ⟨g, j * 2 + 1, none⟩ = some (.slice p3 l3 c3)) ∧ W.frozen? ⟨g, j * 2, none⟩ = false ∧ W.frozen? ⟨g, j * 2 + 1, none⟩ = false) := fun W hW => ⟨⟨(hW.cell (p := ⟨g, j * 2, none⟩) hgw).trans k1, (hW.cell (p := ⟨g, j * 2 + 1, none⟩) hgw).trans k2⟩, (hW.frozen (p := ⟨g, j * 2, none⟩) hgw).trans g1, (hW.frozen (p := ⟨g, j * 2 + 1, none⟩) hgw).trans g2⟩
            have HTM : Hid (∀ W, Below wi.heap.size wi W → Calls Tryz.prog 37 #[.agg #[.bool s3, .slice p3 l3 c3], .agg #[.bool s2, .slice p2 l2 c2]] W fun e w' => ∃ z, e = .returned z ∧ IsI W.heap.size w' z (N[j] * Y) 6300 ∧ Below W.heap.size W w') := fun W hW => by
              refine (times_any (w.heap.size + 1) _ _ N[j] Y 6300 300 W (h3I.below hW) (hI.den.below hW) (by omega) (by omega) (HTB.out _ (hI.bel.trans (hW.mono hI.bel.size)))).mono ?_
              rintro e w' ⟨z, rfl, hz, hb⟩
              exact ⟨z, rfl, big_tight hz (HC.out.bnd.1 _ (List.getElem_mem hjl)) HXY.out.2 (by omega), hb⟩
            have HNEW : Hid (∀ w2 s4 p4 l4 c4, Below wi.heap.size wi w2 → IsI wi.heap.size w2 (.agg #[.bool s4, .slice p4 l4 c4]) (N[j] * Y) 6300 → CI w w1.heap.size (.slice (some ⟨g, 0, none⟩) N.length vb) (half N Y (j + 1)) D X Y s q l c' s1 p1 l1 c1 s2 p2 l2 c2 ((w2.setCell ⟨g, j * 2, none⟩ (.bool s4)).setCell ⟨g, j * 2 + 1, none⟩ (.slice p4 l4 c4))) := fun w2 s4 p4 l4 c4 hb hz => by
              have h := HI.out.below hb
              have hws2 : w.heap.size + 1 ≤ wi.heap.size := by have := HSZ.out; have := HI.out.xbx.lt; omega
              have hr := h.row.set hjh (hz.mono hws2 (Nat.le_refl _)) (fun a e1 e2 => by have := (isI_from hz a e1 e2).1; omega)
              rw [half_next N Y j hjl] at hr
              exact ⟨hr, bx_far h.box (by omega) _ _ _ _, bx_far h.xbx (by have := HSZ.out; omega) _ _ _ _, isI_far h.div (fun a e1 e2 e3 => HC.out.dap a e1 e2 (by rw [← e3]; rfl)) _ _ _ _, isI_far h.num (fun a e1 e2 => by have := (HAN.out a e1 e2).1; omega) _ _ _ _, isI_far h.den (fun a e1 e2 => by have := (HAD.out a e1 e2).1; omega) _ _ _ _, (h.bel.setCell (p := ⟨g, j * 2, none⟩) (by show _ ≤ g; omega) _).setCell (p := ⟨g, j * 2 + 1, none⟩) (by show _ ≤ g; omega) _⟩
            clear hel e1 e2 hr h3I h3a hI
            go_wp2_with fail
            go_region_with (go_at_call 37; refine (HTM.out _ (Below.refl _ _).drew).mono ?_; rintro e w2 ⟨z, rfl, hz, hb⟩; obtain ⟨s4, p4, l4, c4, rfl⟩ := hz.shape; obtain ⟨⟨m1, m2⟩, n1, n2⟩ := HK.out w2 ((Below.refl _ _).drew.trans hb); have HZ4 := hidG hz; have HB4 := hidG hb; clear hz hb)
            all_goals
              go_wp2_with fail
              go_roundw
              case rel => exact ⟨j + 1, by omega, by go_num, HNEW.out w2 s4 p4 l4 c4 ((Below.refl _ _).drew.trans HB4.out) HZ4.out⟩
              case measure => simp [intOf]; omega
          · have hje : j = N.length := by omega
            rw [hje, half_all] at HI
            clear hI hje
            obtain ⟨x0, x1, x2, x3⟩ := HI.out.xbx.c4
            obtain ⟨b0, b1⟩ := HI.out.box.c2
            have HTN : Hid (∀ W, Below wi.heap.size wi W → Calls Tryz.prog 37 #[.agg #[.bool s1, .slice p1 l1 c1], .agg #[.bool s, .slice q l c']] W fun e w' => ∃ z, e = .returned z ∧ IsI W.heap.size w' z (D * X) 6300 ∧ Below W.heap.size W w') := fun W hW => by
              refine (times_any (w.heap.size + 1) _ _ X D 300 6300 W (HI.out.num.below hW) (HI.out.div.below hW) (by omega) (by omega) (HTB.out _ (HI.out.bel.trans (hW.mono HI.out.bel.size)))).mono ?_
              rintro e w' ⟨z, rfl, hz, hb⟩
              rw [Int.mul_comm] at hz
              exact ⟨z, rfl, big_tight hz HC.out.bnd.2 HXY.out.1 (by have := HNK.out; omega), hb⟩
            go_wp2_with fail
            refine (HTN.out _ (Below.refl _ _)).mono ?_
            rintro e w2 ⟨z, rfl, hz, hb2⟩
            obtain ⟨s5, p5, l5, c5, rfl⟩ := hz.shape
            have HI2 := hidG (HI.out.below hb2)
            have HZ5 := hidG hz
            have HS2 : Hid (wi.heap.size ≤ w2.heap.size) := hb2.size
            have hws2 : w.heap.size + 1 ≤ wi.heap.size := by have := HSZ.out; have := HI.out.xbx.lt; omega
            have HOB : Hid (∀ b, (Value.slice va N.length vb).ownBlock = some b → w.heap.size + 1 ≤ b ∧ b < wo.heap.size) := fun b e => by
              obtain ⟨xs, hr, _⟩ := HC.out.row
              exact hr.lt b e
            clear hz hb2 x0 x1 x2 x3 b0 b1
            go_wp2_with (at_builtin; refine wpList_appZ (base := w.heap.size + 1) (N := N.map (· * Y)) (m := 6300) (x := D * X) rfl _ _ rfl rfl ?own ?hz ?hap _ rfl ?hH N.length ?hnl ?hn ?hb ?_)
            case own => exact HI2.out.row
            case hz => exact HZ5.out.mono (by omega) (Nat.le_refl _)
            case hap => exact fun a e1 e2 e3 => by have := (HOB.out _ e3).2; have := (isI_from HZ5.out a e1 e2).1; have := HSZ.out; have := HI.out.xbx.lt; omega
            case hH => rfl
            case hnl => simp
            case hn => omega
            case hb => have := HS2.out; omega
            intro g cap W5 hrow5 hsz5 hg5 hgr5
            have o1 : (Value.slice va N.length vb).ownBlock ≠ some w.heap.size := fun e => by have := (HOB.out _ e).1; omega
            have o2 : (Value.slice va N.length vb).ownBlock ≠ some w1.heap.size := fun e => by have := (HOB.out _ e).2; have := HSZ.out; omega
            have hbox5 := bx_grown HI2.out.box hgr5 o1
            have hxbx5 := bx_grown HI2.out.xbx hgr5 o2
            have hdiv5 := isI_grown HI2.out.div hgr5 HC.out.dap
            have hden5 := isI_grown HI2.out.den hgr5 (fun a e1 e2 e3 => by have := (HAD.out a e1 e2).1; have := (HOB.out _ e3).2; omega)
            have hbel5 : Below w.heap.size w W5 := HI2.out.bel.grown hgr5 HI2.out.bel.size (fun k e => Nat.le_of_succ_le (HOB.out k e).1)
            have hg5' : w.heap.size + 1 ≤ g ∧ g < W5.heap.size := by
              obtain ⟨xs, hr, _⟩ := hrow5
              exact hr.lt g rfl
            have HROW5 := hidG hrow5
            have HBOX5 := hidG hbox5
            have HBEL5 := hidG hbel5
            have HG5 := hidG hg5'
            have HTD : Hid (∀ W, Below W5.heap.size W5 W → Calls Tryz.prog 37 #[.agg #[.bool s, .slice q l c'], .agg #[.bool s2, .slice p2 l2 c2]] W fun e w' => ∃ z, e = .returned z ∧ IsI W.heap.size w' z (D * Y) 6300 ∧ Below W.heap.size W w') := fun W hW => by
              refine (times_any (w.heap.size + 1) _ _ D Y 6300 300 W (hdiv5.below hW) (hden5.below hW) (by omega) (by omega) (HTB.out _ (hbel5.trans (hW.mono hbel5.size)))).mono ?_
              rintro e w' ⟨z, rfl, hz, hb⟩
              exact ⟨z, rfl, big_tight hz HC.out.bnd.2 HXY.out.2 (by have := HNK.out; omega), hb⟩
            obtain ⟨x0, x1, x2, x3⟩ := hxbx5.c4
            obtain ⟨b0, b1⟩ := hbox5.c2
            clear hrow5 hg5 hgr5 hxbx5 hbox5 hdiv5 hden5 hbel5 hg5' o1 o2
            go_wp2_with fail
            refine (HTD.out _ (Below.refl _ _)).mono ?_
            rintro e w6 ⟨z, rfl, hz, hb6⟩
            obtain ⟨s6, p6, l6, c6, rfl⟩ := hz.shape
            have hbx6 := HBOX5.out.below HBOX5.out.lt hb6
            obtain ⟨b0', b1'⟩ := hbx6.c2
            have f0 := hbx6.frozen 0
            have f1 := hbx6.frozen 1
            have HNX : Hid (CN L w (k + 1) (.slice (some ⟨g, 0, none⟩) (N.length + 1) cap) (V ++ [(X, Y)]) (N.map (· * Y) ++ [X * D]) (D * Y) s6 p6 l6 c6 ((w6.setCell ⟨w.heap.size, 0, none⟩ (.bool s6)).setCell ⟨w.heap.size, 1, none⟩ (.slice p6 l6 c6))) := by
              have hB6 := HBEL5.out.trans (hb6.mono HBEL5.out.size)
              have hrow6 := ((HROW5.out.below hb6).low ⟨w.heap.size, 0, none⟩ (.bool s6) (Nat.lt_succ_self _)).low ⟨w.heap.size, 1, none⟩ (.slice p6 l6 c6) (Nat.lt_succ_self _)
              rw [Int.mul_comm D X] at hrow6
              have hl5 : w.heap.size + 1 ≤ W5.heap.size := by have := HG5.out; omega
              refine ⟨by simp [HC.out.len], fun i hi hi' => ?_, HC.out.com.next HY.out, hrow6, (hbx6.set 0 _).set 1 _, ?_, ⟨fun x hx => ?_, ?_⟩, (hB6.setCell (p := ⟨w.heap.size, 0, none⟩) (Nat.le_refl _) _).setCell (p := ⟨w.heap.size, 1, none⟩) (Nat.le_refl _) _, fun a e1 e2 e3 => ?_⟩
              · by_cases e : i < V.length
                · rw [List.getElem_append_left e]; exact HC.out.rat i hi e
                · have hie : i = V.length := by simp at hi'; omega
                  subst hie
                  have hVk := HC.out.len
                  rw [List.getElem_append_right (Nat.le_refl _)]
                  simp only [Nat.sub_self, List.getElem_cons_zero, hVk]
                  exact HRV.out
              · exact ((hz.mono hl5 (Nat.le_refl _)).setC ⟨w.heap.size, 0, none⟩ _ (Nat.lt_succ_self _)).setC ⟨w.heap.size, 1, none⟩ _ (Nat.lt_succ_self _)
              · rcases List.mem_append.1 hx with hx | hx
                · obtain ⟨n, hn, rfl⟩ := List.mem_map.1 hx
                  rw [Int.natAbs_mul, show 280 * (k + 1) + 1 = 280 * k + 1 + 280 by omega]
                  exact lb_mul _ _ (HC.out.bnd.1 n hn) HXY.out.2
                · rw [List.mem_singleton.1 hx, Int.mul_comm, Int.natAbs_mul, show 280 * (k + 1) + 1 = 280 * k + 1 + 280 by omega]
                  exact lb_mul _ _ HC.out.bnd.2 HXY.out.1
              · rw [Int.natAbs_mul, show 280 * (k + 1) + 1 = 280 * k + 1 + 280 by omega]
                exact lb_mul _ _ HC.out.bnd.2 HXY.out.2
              · have h1 := (isI_from hz a e1 e2).1
                have h2 := HG5.out.2
                have e4 : some g = some a.block := e3
                injection e4 with e4
                omega
            clear hz hb6 hbx6 x0 x1 x2 x3 b0 b1
            go_wp2_with fail
            go_roundw
            case rel => exact ⟨k + 1, _, _, _, _, _, _, _, by omega, by go_num, HNX.out⟩
            case measure => simp [intOf]; omega
    · have hie : k = L.length := by omega
      obtain ⟨b0, b1⟩ := hC.box.c2
      have f0 := hC.box.frozen 0
      have f1 := hC.box.frozen 1
      have HKL := hidG hie
      clear hC hie
      go_wp2_with fail
      go_region
      all_goals
        go_wp2_with fail
        have hx := (HC.out.box.set 0 (.bool s)).set 1 (.slice q l c')
        have e0 : (((wo.setCell ⟨w.heap.size, 0, none⟩ (.bool s)).setCell ⟨w.heap.size, 1, none⟩ (.slice q l c')).drew).cell? ⟨w.heap.size, 0, none⟩ = some (.bool s) := hx.c2.1
        have e1 : (((wo.setCell ⟨w.heap.size, 0, none⟩ (.bool s)).setCell ⟨w.heap.size, 1, none⟩ (.slice q l c')).drew).cell? ⟨w.heap.size, 1, none⟩ = some (.slice q l c') := hx.c2.2
        have hrow : IntRow (w.heap.size + 1) wo (.slice va N.length vb) N 6300 := HC.out.row
        have hdiv : IsI (w.heap.size + 1) wo (.agg #[.bool s, .slice q l c']) D 6300 := HC.out.div
        have hbel := HC.out.bel
        refine bodyPost_ret (v := .tuple #[.slice va N.length vb, .agg #[.bool s, .slice q l c'], .bool true]) ?_ rfl ⟨.inr ⟨V, N, D, _, _, by rw [HC.out.len, HKL.out], HC.out.rat, rfl, (hrow.low ⟨w.heap.size, 0, none⟩ (.bool s) (Nat.lt_succ_self _)).low ⟨w.heap.size, 1, none⟩ (.slice q l c') (Nat.lt_succ_self _), (hdiv.setC ⟨w.heap.size, 0, none⟩ (.bool s) (Nat.lt_succ_self _)).setC ⟨w.heap.size, 1, none⟩ (.slice q l c') (Nat.lt_succ_self _), HC.out.com⟩, ((hbel.setCell (p := ⟨w.heap.size, 0, none⟩) (Nat.le_refl _) _).setCell (p := ⟨w.heap.size, 1, none⟩) (Nat.le_refl _) _).drew⟩
        clear hx hrow hdiv hbel
        simp [results, Tryz.results20, go_sem, e0, e1]
end Go.Proofs.YtpimiboiogfhbaaGreatDoor.L
